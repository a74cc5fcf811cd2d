import copy
import unittest

from quartersheet.kinds import MOST, is_code, is_colour, is_level, is_whole
from tests.helper import BAD_SIGNS, NO_CODES, ODD, TEXTS, THIRTY, codes_up_to

ASKS = [is_whole, is_level, is_colour, is_code]


class Kinds(unittest.TestCase):
    def asked(self, ask, thing, expected):
        before = copy.deepcopy(thing)
        self.assertIs(ask(thing), expected, (ask, thing))
        self.assertEqual(thing, before)

    def test_most(self):
        self.assertIs(type(MOST), int)
        self.assertEqual(MOST, 40)

    def test_whole_numbers(self):
        for number in [-THIRTY, -41, -1, 0, 1, 2, 35, 36, 40, 41, THIRTY, 10 ** 299]:
            self.asked(is_whole, number, True)

    def test_levels(self):
        for level in range(41):
            self.asked(is_level, level, True)
        for number in [-THIRTY, -40, -1, 41, 42, THIRTY]:
            self.asked(is_level, number, False)

    def test_colours(self):
        for colour in range(36):
            self.asked(is_colour, colour, True)
        for number in [-THIRTY, -35, -1, 36, 37, 40, 41, THIRTY]:
            self.asked(is_colour, number, False)

    def test_truths_are_of_no_kind(self):
        for truth in [True, False]:
            for ask in ASKS:
                self.asked(ask, truth, False)

    def test_odd_things_are_of_no_kind(self):
        for thing in ODD:
            for ask in ASKS:
                self.asked(ask, thing, False)

    def test_texts_are_no_numbers(self):
        for text in TEXTS:
            for ask in [is_whole, is_level, is_colour]:
                self.asked(ask, text, False)

    def test_codes(self):
        for code in codes_up_to(4) + ["0" * 40, "1" * 40, "2" * 40, "3" * 40, "0123" * 10, "0123" * 9 + "012"]:
            self.asked(is_code, code, True)

    def test_no_codes(self):
        for thing in NO_CODES + BAD_SIGNS:
            self.asked(is_code, thing, False)

    def test_one_bad_sign_anywhere_in_a_long_text(self):
        for sign in ["4", "a", "/", "-", " ", "\t", "\n"]:
            for at in [0, 20, 39]:
                self.asked(is_code, "3" * at + sign + "3" * (39 - at), False)
