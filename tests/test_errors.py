import unittest

from quartersheet import errors
from tests.helper import TWELVE

NAMES = [
    "NoLevel", "NoCode", "NoColour", "NoPlace", "NoSide", "NoLeaf",
    "Twice", "Gap", "NoText", "NoName", "NoNumber", "NoRow",
]


class Refusals(unittest.TestCase):
    def test_the_twelve_bear_their_names(self):
        self.assertEqual([kind.__name__ for kind in TWELVE], NAMES)

    def test_any_refusal_is_a_value_error(self):
        self.assertTrue(issubclass(errors.SheetError, ValueError))
        self.assertEqual(errors.SheetError.__name__, "SheetError")

    def test_each_is_under_sheet_error_and_under_no_other(self):
        for kind in TWELVE:
            self.assertTrue(issubclass(kind, errors.SheetError))
            self.assertEqual([other for other in TWELVE if issubclass(kind, other)], [kind])

    def test_each_can_be_raised_and_taken_by_its_name(self):
        for kind in TWELVE:
            with self.assertRaises(kind):
                raise kind("words")
