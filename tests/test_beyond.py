import unittest

from quartersheet.beyond import beyond, touches
from quartersheet.codes import common
from quartersheet.errors import NoLeaf, NoSide
from quartersheet.leaves import leaves
from tests.helper import (
    NO_CODES, NO_SIDES, SIDES, answer_in_short, answer_of, assert_own_list, assert_refused, chequered, codes_up_to,
    contacts, drawn, leaves_from, small_sheets, speckled, spot,
)

LONG = "0123" * 10
FOUR = (0, 1, 2, 3)
# The leaves in the middle, 03 and 30, have leaves of other widths at each side.
VARIED = (4, ((0, (1, 2, 3, FOUR), (4, 5, 6, FOUR), 5), 1, 2, (5, 6, 7, 8)))


def sheets_to_ask():
    more = [drawn(4, seed, 3, 12) for seed in range(10, 16)] + [speckled(3, seed, 4) for seed in range(3)]
    return small_sheets() + more


def deep_sheets():
    return [
        spot(40, LONG, 1, 0), spot(40, "3" * 40, 1, 0), spot(40, "0" * 40, 1, 0), spot(40, "0" + "3" * 39, 1, 0),
        spot(40, "12" * 20, 7, 3), (40, (FOUR, 4, spot(39, LONG[:20], 5, 6)[1], FOUR)), (40, FOUR), (39, 3),
    ]


class Beyond(unittest.TestCase):
    def test_one_that_is_as_wide(self):
        sheet = (1, FOUR)
        for code, side, other in [
            ("0", "right", "1"), ("0", "down", "2"), ("1", "left", "0"), ("1", "down", "3"), ("2", "up", "0"),
            ("2", "right", "3"), ("3", "up", "1"), ("3", "left", "2"),
        ]:
            self.assertEqual(answer_of(self, beyond, sheet, code, side), [other])
            self.assertEqual(answer_of(self, beyond, (40, FOUR), code, side), [other])

    def test_one_that_is_wider(self):
        for code, side, other in [
            ("03", "right", "1"), ("03", "down", "2"), ("30", "up", "1"), ("30", "left", "2"), ("31", "up", "1"),
            ("32", "left", "2"), ("0133", "right", "1"), ("011", "right", "1"), ("0133", "down", "03"),
            ("021", "right", "03"), ("020", "up", "00"), ("010", "left", "00"),
        ]:
            self.assertEqual(answer_of(self, beyond, VARIED, code, side), [other], (code, side))

    def test_several_that_are_narrower(self):
        self.assertEqual(answer_of(self, beyond, VARIED, "03", "up"), ["012", "0132", "0133"])
        self.assertEqual(answer_of(self, beyond, VARIED, "03", "left"), ["021", "0231", "0233"])
        self.assertEqual(answer_of(self, beyond, VARIED, "1", "left"), ["011", "0131", "0133", "03"])
        self.assertEqual(answer_of(self, beyond, VARIED, "1", "down"), ["30", "31"])
        self.assertEqual(answer_of(self, beyond, VARIED, "2", "up"), ["022", "0232", "0233", "03"])
        self.assertEqual(answer_of(self, beyond, VARIED, "2", "right"), ["30", "32"])
        self.assertEqual(answer_of(self, beyond, VARIED, "00", "right"), ["010", "012"])
        self.assertEqual(answer_of(self, beyond, VARIED, "00", "down"), ["020", "021"])

    def test_narrower_ones_of_unlike_widths_below_and_to_the_right(self):
        sheet = (4, (0, (FOUR, 1, (2, 3, (4, 5, 6, 7), 1), 1), (1, (2, FOUR, 3, 3), 1, 1), 3))
        self.assertEqual(beyond(sheet, "0", "right"), ["100", "102", "120", "1220", "1222"])
        self.assertEqual(beyond(sheet, "0", "down"), ["20", "210", "2110", "2111"])

    def test_the_end_of_the_sheet(self):
        for level in [0, 1, 40]:
            for side in SIDES:
                self.assertEqual(answer_of(self, beyond, (level, 35), "", side), [])
        for code, sides in [("0", ["up", "left"]), ("1", ["up", "right"]), ("2", ["left", "down"]),
                            ("3", ["right", "down"])]:
            for side in sides:
                self.assertEqual(beyond((1, FOUR), code, side), [])
                self.assertEqual(beyond((40, FOUR), code, side), [])
                self.assertEqual(beyond(spot(40, code * 40, 5, 6), code * 40, side), [])

    def test_by_places(self):
        for sheet in sheets_to_ask():
            found = contacts(sheet)
            for code, colour in leaves_from(sheet):
                for side in SIDES:
                    expected = sorted(other for one, at, other in found if (one, at) == (code, side))
                    self.assertEqual(answer_of(self, beyond, sheet, code, side), expected)

    def test_what_they_have_in_common(self):
        for sheet in sheets_to_ask() + deep_sheets():
            for code, colour in leaves(sheet):
                wide = 2 ** (sheet[0] - len(code))
                for side in SIDES:
                    others = beyond(sheet, code, side)
                    self.assertEqual(others, sorted(others))
                    if others:
                        lengths = [common(code, other, sheet[0]) for other in others]
                        self.assertEqual(sum(lengths), wide)
                        self.assertGreater(min(lengths), 0)

    def test_level_40(self):
        sheet = spot(40, "0" + "3" * 39, 1, 0)
        deep = ["0" + "3" * signs for signs in range(40)]
        self.assertEqual(beyond(sheet, "1", "left"), [code + "1" for code in deep[:-1]] + [deep[-1]])
        self.assertEqual(beyond(sheet, "2", "up"), [code + "2" for code in deep[:-1]] + [deep[-1]])
        self.assertEqual(beyond(sheet, "3", "up"), ["1"])
        self.assertEqual(beyond(sheet, deep[-1], "right"), ["1"])
        self.assertEqual(beyond(sheet, deep[-1], "down"), ["2"])
        self.assertEqual(beyond(sheet, deep[-1], "up"), [deep[-2] + "1"])
        self.assertEqual(beyond(sheet, deep[-1], "left"), [deep[-2] + "2"])
        self.assertEqual(beyond(sheet, deep[20] + "0", "left"), [deep[19] + "2"])
        self.assertEqual(beyond(sheet, deep[20] + "0", "right"), [deep[20] + "1"])

    def test_the_list_is_the_askers_own(self):
        for code, side in [("03", "up"), ("1", "left"), ("03", "right"), ("30", "right")]:
            assert_own_list(self, beyond, VARIED, code, side)
        empty = beyond(VARIED, "1", "up")
        empty.append("0")
        self.assertEqual(beyond(VARIED, "1", "up"), [])

    def test_no_leaf(self):
        for thing in NO_CODES:
            for side in SIDES:
                assert_refused(self, NoLeaf, beyond, VARIED, thing, side)
        for sheet in [(0, 0), (1, 3), (3, 3), (40, 3)]:
            for code in ["0", "3", "01", "3" * 40]:
                assert_refused(self, NoLeaf, beyond, sheet, code, "up")
        for sheet in small_sheets(3):
            known = [code for code, colour in leaves_from(sheet)]
            for code in codes_up_to(sheet[0] + 1):
                if code not in known:
                    assert_refused(self, NoLeaf, beyond, sheet, code, "left")

    def test_no_leaf_at_level_40(self):
        sheet = spot(40, LONG, 1, 0)
        for code in ["", LONG[:1], LONG[:39], LONG + "0", "10", "3" * 40, LONG[:20] + "10"]:
            assert_refused(self, NoLeaf, beyond, sheet, code, "right")

    def test_no_side(self):
        for thing in NO_SIDES:
            for sheet, code in [((0, 0), ""), (VARIED, "03"), (spot(40, LONG, 1, 0), LONG), ((40, 1), "")]:
                assert_refused(self, NoSide, beyond, sheet, code, thing)

    def test_of_two_refusals_the_leaf_comes_first(self):
        for code in NO_CODES + ["0", "", "10", "03" + "0" * 38]:
            for side in NO_SIDES[::5]:
                assert_refused(self, NoLeaf, beyond, VARIED, code, side)


class Touches(unittest.TestCase):
    def test_plain_sheets(self):
        for level in [0, 1, 3, 40]:
            self.assertEqual(answer_of(self, touches, (level, 5)), [])

    def test_squares_that_meet_in_a_corner_alone_are_not_there(self):
        sides = [("0", "1"), ("0", "2"), ("1", "3"), ("2", "3")]
        for level in [1, 2, 40]:
            self.assertEqual(answer_of(self, touches, (level, FOUR)), sides)
            self.assertEqual(answer_of(self, touches, (level, (0, 1, 1, 0))), sides)

    def test_leaves_of_one_colour_touch_too(self):
        self.assertEqual(touches((2, (0, (0, 0, 5, 0), 0, 0))), [
            ("0", "10"), ("0", "12"), ("0", "2"), ("10", "11"), ("10", "12"), ("11", "13"), ("12", "13"), ("12", "3"),
            ("13", "3"), ("2", "3"),
        ])

    def test_by_places(self):
        for sheet in sheets_to_ask():
            expected = sorted((code, other) for code, side, other in contacts(sheet) if code < other)
            self.assertEqual(answer_of(self, touches, sheet), expected)

    def test_against_common_of_each_two(self):
        for sheet in sheets_to_ask()[::2] + deep_sheets():
            codes = [code for code, colour in leaves(sheet)]
            expected = [(one, two) for one in codes for two in codes if one < two and common(one, two, sheet[0]) > 0]
            self.assertEqual(answer_of(self, touches, sheet), expected)

    def test_against_beyond(self):
        for sheet in sheets_to_ask() + deep_sheets():
            found = []
            for code, colour in leaves(sheet):
                for side in SIDES:
                    found += [tuple(sorted([code, other])) for other in beyond(sheet, code, side)]
            # Each of the two sees the other one at one side.
            self.assertEqual(sorted(found), sorted(touches(sheet) * 2))

    def test_sorted_and_each_two_once(self):
        for sheet in sheets_to_ask() + deep_sheets() + [chequered(40, 4, 1, 2)]:
            told = touches(sheet)
            self.assertEqual(told, sorted(set(told)))
            self.assertTrue(all(code < other for code, other in told))

    def test_some_thousand_leaves_in_a_short_time(self):
        for level in [6, 40]:
            told = answer_in_short(self, touches, chequered(level, 6, 1, 2))
            self.assertEqual(len(told), 2 * 64 * 63)
        tree = chequered(6, 6, 1, 2)[1]
        for step in range(34):
            tree = (0, 1, 2, tree)
        told = answer_in_short(self, touches, (40, tree))
        self.assertIn(("3" * 34 + "012301", "3" * 34 + "012303"), told)

    def test_the_list_is_the_askers_own(self):
        for sheet in [(1, FOUR), VARIED, spot(40, LONG, 1, 0)]:
            assert_own_list(self, touches, sheet)
