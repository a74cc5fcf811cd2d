import unittest

from quartersheet.errors import NoColour, NoLevel
from quartersheet.mixing import chosen, mapped, mixed, over
from tests.helper import (
    NO_COLOURS, answer_of, assert_refused, chequered, pairs_of_small_sheets, picture_of, sheet_from, small_sheets, spot,
)

LONG = "0123" * 10
LEVELS = [(0, 1), (1, 0), (3, 2), (39, 40), (40, 0)]
TABLES = [
    {}, {(0, 1): 5}, {(0, 1): 1, (1, 0): 2}, {(0, 0): 7, (1, 1): 7, (2, 2): 7}, {(34, 34): 1},
    {(35, 0): 0, (0, 35): 35}, {(a, b): 9 for a in range(36) for b in range(36)},
    {(a, b): (a + b) % 2 for a in range(3) for b in range(3)},
]


class Mapped(unittest.TestCase):
    def test_no_keys(self):
        for sheet in small_sheets() + [spot(40, LONG, 1, 0), chequered(40, 6, 1, 2)]:
            self.assertEqual(answer_of(self, mapped, sheet, {}), sheet)

    def test_what_becomes_of_colours(self):
        sheet = (2, (0, 1, (0, 1, 2, 3), 35))
        for turned, expected in [
            ({1: 1}, sheet), ({7: 8, 34: 0}, sheet), ({0: 0, 1: 1, 2: 2, 3: 3, 35: 35}, sheet),
            ({0: 9}, (2, (9, 1, (9, 1, 2, 3), 35))), ({35: 0}, (2, (0, 1, (0, 1, 2, 3), 0))),
            # Each colour is looked up once: what 0 became is not looked up again.
            ({0: 1, 1: 0}, (2, (1, 0, (1, 0, 2, 3), 35))), ({0: 1, 1: 2, 2: 3}, (2, (1, 2, (1, 2, 3, 3), 35))),
        ]:
            self.assertEqual(answer_of(self, mapped, sheet, turned), expected)

    def test_several_become_one(self):
        sheet = (2, (0, 1, (0, 1, 2, 3), 35))
        self.assertEqual(mapped(sheet, {0: 3, 1: 3, 2: 3}), (2, (3, 3, 3, 35)))
        self.assertEqual(mapped(sheet, {0: 5, 1: 5, 2: 5, 3: 5, 35: 5}), (2, 5))
        self.assertEqual(mapped(sheet, {0: 35, 1: 35, 2: 35, 3: 35}), (2, 35))
        self.assertEqual(mapped((1, (1, 1, 1, 0)), {0: 1}), (1, 1))

    def test_by_places(self):
        for sheet in small_sheets():
            for turned in [{0: 1}, {0: 1, 1: 0}, {1: 2, 2: 1}, {0: 2, 1: 2}, {35: 0, 0: 0}, {2: 35, 17: 3}]:
                picture = {place: turned.get(colour, colour) for place, colour in picture_of(sheet).items()}
                self.assertEqual(answer_of(self, mapped, sheet, turned), sheet_from(sheet[0], picture))

    def test_level_40(self):
        sheet = spot(40, LONG, 1, 0)
        self.assertEqual(mapped(sheet, {1: 0}), (40, 0))
        self.assertEqual(mapped(sheet, {0: 1, 1: 0}), spot(40, LONG, 0, 1))
        self.assertEqual(mapped((40, 3), {3: 4}), (40, 4))
        self.assertEqual(mapped(chequered(40, 6, 1, 2), {1: 2, 2: 1}), chequered(40, 6, 2, 1))
        self.assertEqual(mapped(chequered(40, 6, 1, 2), {1: 2}), (40, 2))


class Mixed(unittest.TestCase):
    def test_no_keys(self):
        for one, other in pairs_of_small_sheets(3):
            self.assertEqual(answer_of(self, mixed, one, other, {}), one)

    def test_keys_in_their_order(self):
        one, other = (1, (0, 0, 1, 1)), (1, (0, 1, 0, 1))
        self.assertEqual(mixed(one, other, {(0, 1): 5}), (1, (0, 5, 1, 1)))
        self.assertEqual(mixed(one, other, {(1, 0): 5}), (1, (0, 0, 5, 1)))
        self.assertEqual(mixed(one, other, {(0, 1): 5, (1, 0): 6}), (1, (0, 5, 6, 1)))
        self.assertEqual(mixed(other, one, {(0, 1): 5, (1, 0): 6}), (1, (0, 6, 5, 1)))
        self.assertEqual(mixed(one, other, {(0, 0): 1, (0, 1): 1}), (1, 1))

    def test_unlike_leaves(self):
        four = (0, 1, 2, 3)
        self.assertEqual(mixed((2, 0), (2, (four, 0, 1, 2)), {(0, 2): 9}), (2, ((0, 0, 9, 0), 0, 0, 9)))
        self.assertEqual(mixed((2, (four, 0, 1, 2)), (2, 0), {(2, 0): 9}), (2, ((0, 1, 9, 3), 0, 1, 9)))
        self.assertEqual(mixed((2, (four, 5, 5, 5)), (2, (5, 5, 5, four)), {(5, 0): 1}),
                         (2, (four, 5, 5, (1, 5, 5, 5))))

    def test_by_places(self):
        for one, other in pairs_of_small_sheets():
            first, second = picture_of(one), picture_of(other)
            for table in TABLES:
                picture = {at: table.get((first[at], second[at]), first[at]) for at in first}
                self.assertEqual(answer_of(self, mixed, one, other, table), sheet_from(one[0], picture))

    def test_level_40(self):
        one, other = spot(40, LONG, 1, 0), spot(40, "3" * 40, 1, 0)
        self.assertEqual(mixed(one, other, {(1, 0): 0}), (40, 0))
        self.assertEqual(mixed(one, other, {(0, 1): 7, (1, 0): 0}), spot(40, "3" * 40, 7, 0))
        self.assertEqual(mixed(one, one, {(1, 1): 2, (0, 0): 3}), spot(40, LONG, 2, 3))
        many = chequered(40, 6, 1, 2)
        self.assertEqual(mixed(many, chequered(40, 6, 2, 1), {(1, 2): 3, (2, 1): 4}), chequered(40, 6, 3, 4))
        self.assertEqual(mixed(many, (40, 0), {(1, 0): 0, (2, 0): 0}), (40, 0))

    def test_refusals(self):
        for one, other in LEVELS:
            for table in TABLES:
                assert_refused(self, NoLevel, mixed, (one, 0), (other, 0), table)


class Over(unittest.TestCase):
    def test_where_the_clear_colour_stands(self):
        lower, upper = (1, (0, 1, 2, 3)), (1, (4, 0, 0, 5))
        self.assertEqual(over(lower, upper, 0), (1, (4, 1, 2, 5)))
        self.assertEqual(over(lower, upper, 2), upper)
        self.assertEqual(over(lower, upper, 35), upper)
        self.assertEqual(over(lower, upper, 4), (1, (0, 0, 0, 5)))
        self.assertEqual(over(lower, (1, 35), 35), lower)
        self.assertEqual(over(lower, (1, 35), 0), (1, 35))
        self.assertEqual(over((1, 6), (1, (6, 6, 6, 0)), 0), (1, 6))

    def test_over_itself(self):
        for sheet in small_sheets() + [spot(40, LONG, 1, 0)]:
            for clear in [0, 1, 35]:
                self.assertEqual(answer_of(self, over, sheet, sheet, clear), sheet)

    def test_by_places(self):
        for lower, upper in pairs_of_small_sheets():
            below, above = picture_of(lower), picture_of(upper)
            for clear in [0, 1, 35]:
                picture = {at: below[at] if above[at] == clear else above[at] for at in above}
                self.assertEqual(answer_of(self, over, lower, upper, clear), sheet_from(lower[0], picture))

    def test_level_40(self):
        upper = spot(40, LONG, 1, 0)
        self.assertEqual(over((40, 7), upper, 0), spot(40, LONG, 1, 7))
        self.assertEqual(over((40, 7), upper, 1), spot(40, LONG, 7, 0))
        self.assertEqual(over((40, 7), upper, 2), upper)
        self.assertEqual(over(upper, spot(40, LONG, 0, 5), 5), (40, 0))
        self.assertEqual(over(chequered(40, 6, 1, 2), chequered(40, 6, 3, 4), 3), chequered(40, 6, 1, 4))

    def test_refusals(self):
        for lower, upper in LEVELS:
            assert_refused(self, NoLevel, over, (lower, 0), (upper, 0), 0)
        for thing in NO_COLOURS:
            for level in [0, 3, 40]:
                assert_refused(self, NoColour, over, (level, 0), (level, 1), thing)
        assert_refused(self, NoColour, over, (1, (0, 1, 2, 3)), (1, (0, 1, 2, 3)), None)

    def test_of_two_refusals_the_level_comes_first(self):
        for lower, upper in LEVELS:
            for thing in NO_COLOURS:
                assert_refused(self, NoLevel, over, (lower, 0), (upper, 0), thing)


class Chosen(unittest.TestCase):
    def test_masks(self):
        one, other = (1, (1, 2, 3, 4)), (1, (5, 6, 7, 8))
        self.assertEqual(chosen((1, (9, 0, 0, 9)), 9, one, other), (1, (1, 6, 7, 4)))
        self.assertEqual(chosen((1, (9, 0, 0, 9)), 0, one, other), (1, (5, 2, 3, 8)))
        self.assertEqual(chosen((1, 9), 9, one, other), one)
        self.assertEqual(chosen((1, 9), 8, one, other), other)
        self.assertEqual(chosen((1, (0, 1, 2, 3)), 35, one, other), other)
        self.assertEqual(chosen((1, (0, 1, 0, 0)), 1, (1, (9, 5, 9, 9)), (1, (5, 8, 5, 5))), (1, 5))

    def test_one_and_the_same(self):
        for mask, sheet in pairs_of_small_sheets(2):
            self.assertEqual(answer_of(self, chosen, mask, 1, sheet, sheet), sheet)

    def test_by_places(self):
        sheets = small_sheets()
        for at, mask in enumerate(sheets):
            others = [sheet for sheet in sheets[at:] + sheets[:at] if sheet[0] == mask[0]]
            for one, other in zip(others, others[1:] + others[:1]):
                where, first, second = picture_of(mask), picture_of(one), picture_of(other)
                for colour in [0, 1, 2, 35]:
                    picture = {at: first[at] if where[at] == colour else second[at] for at in where}
                    self.assertEqual(answer_of(self, chosen, mask, colour, one, other), sheet_from(mask[0], picture))

    def test_level_40(self):
        mask = spot(40, LONG, 1, 0)
        self.assertEqual(chosen(mask, 1, (40, 5), (40, 6)), spot(40, LONG, 5, 6))
        self.assertEqual(chosen(mask, 0, (40, 5), (40, 6)), spot(40, LONG, 6, 5))
        self.assertEqual(chosen(mask, 2, (40, 5), (40, 6)), (40, 6))
        self.assertEqual(chosen(chequered(40, 6, 1, 2), 1, (40, 5), (40, 6)), chequered(40, 6, 5, 6))

    def test_refusals(self):
        for level, other in LEVELS:
            for at in range(3):
                sheets = [(level, 0)] * 3
                sheets[at] = (other, 0)
                assert_refused(self, NoLevel, chosen, sheets[0], 0, sheets[1], sheets[2])
        assert_refused(self, NoLevel, chosen, (0, 0), 0, (1, 0), (2, 0))
        for thing in NO_COLOURS:
            for level in [0, 3, 40]:
                assert_refused(self, NoColour, chosen, (level, 0), thing, (level, 1), (level, 2))

    def test_of_two_refusals_the_level_comes_first(self):
        for level, other in LEVELS:
            for thing in NO_COLOURS:
                assert_refused(self, NoLevel, chosen, (level, 0), thing, (level, 0), (other, 0))
                assert_refused(self, NoLevel, chosen, (other, 0), thing, (level, 0), (level, 0))
                assert_refused(self, NoLevel, chosen, (level, 0), thing, (other, 0), (level, 0))
