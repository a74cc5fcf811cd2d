import unittest

from quartersheet.beyond import touches
from quartersheet.codes import common
from quartersheet.lands import lands, rim
from quartersheet.leaves import leaves
from tests.helper import (
    WITHIN, answer_in_short, answer_of, assert_needs_a_place, assert_own_list, chequered, contacts, drawn, from_rows,
    lands_from, leaves_from, picture_of, place_of, rim_from, small_sheets, snake, speckled, spot,
)

LONG = "0123" * 10
LAST = 2 ** 40 - 1
FOUR = (0, 1, 2, 3)


def sheets_to_ask():
    more = [drawn(4, seed, 2, 14) for seed in range(20, 26)] + [speckled(3, seed, 2) for seed in range(4)]
    return small_sheets() + more + [WITHIN]


class Lands(unittest.TestCase):
    def assert_lands(self, sheet, expected):
        # Expected are the colours and the codes in their order; how members lead to one another is free.
        told = answer_of(self, lands, sheet)
        self.assertEqual([(colour, sorted(code for code, other in members)) for colour, members in told], expected)
        near = touches(sheet)
        for colour, members in told:
            self.assertIs(type(members), list)
            self.assertEqual(members[0], (min(code for code, other in members), None))
            for at in range(1, len(members)):
                code, other = members[at]
                self.assertIn(other, [ahead for ahead, before in members[:at]])
                self.assertIn((min(code, other), max(code, other)), near)
        firsts = [members[0][0] for colour, members in told]
        self.assertEqual(firsts, sorted(firsts))

    def test_plain_sheets(self):
        for level in [0, 1, 3, 40]:
            for colour in [0, 35]:
                self.assertEqual(answer_of(self, lands, (level, colour)), [(colour, [("", None)])])

    def test_one_leaf_each(self):
        told = [(0, [("0", None)]), (1, [("1", None)]), (2, [("2", None)]), (3, [("3", None)])]
        for level in [1, 2, 40]:
            self.assertEqual(answer_of(self, lands, (level, FOUR)), told)

    def test_two_of_one_colour_that_meet_in_a_corner_alone(self):
        told = [(5, [("0", None)]), (6, [("1", None)]), (6, [("2", None)]), (5, [("3", None)])]
        for level in [1, 2, 40]:
            self.assertEqual(answer_of(self, lands, (level, (5, 6, 6, 5))), told)

    def test_leaves_that_touch(self):
        for level in [1, 40]:
            told = [(5, [("0", None), ("1", "0")]), (6, [("2", None), ("3", "2")])]
            self.assertEqual(lands((level, (5, 5, 6, 6))), told)
            told = [(5, [("0", None), ("2", "0")]), (6, [("1", None), ("3", "1")])]
            self.assertEqual(lands((level, (5, 6, 5, 6))), told)

    def test_leaves_of_unlike_widths(self):
        # 0 touches 120 at a side, and 1222 touches 3: two ways of colour 0 that meet in a corner alone.
        self.assert_lands((4, (0, (1, 1, (0, 1, (1, 1, 0, 1), 1), 0), 2, 0)), [
            (0, ["0", "120", "1222", "13", "3"]), (1, ["10", "11", "121", "1220", "1221", "1223", "123"]), (2, ["2"]),
        ])
        self.assert_lands((3, (0, (1, 1, (1, 0, 1, 1), 0), 2, 3)), [
            (0, ["0"]), (1, ["10", "11", "120", "122", "123"]), (0, ["121", "13"]), (2, ["2"]), (3, ["3"]),
        ])

    def test_lands_within_lands(self):
        self.assert_lands(WITHIN, lands_from(WITHIN))
        told = [(colour, len(members)) for colour, members in lands(WITHIN)]
        self.assertEqual(told, [(0, 28), (1, 20), (0, 12), (1, 4)])

    def test_by_places(self):
        for sheet in sheets_to_ask():
            self.assert_lands(sheet, lands_from(sheet))

    def test_each_leaf_once_in_just_one_land(self):
        for sheet in sheets_to_ask() + [spot(40, LONG, 1, 0), chequered(40, 4, 1, 2), (40, FOUR)]:
            found = [(code, colour) for colour, members in lands(sheet) for code, other in members]
            self.assertEqual(sorted(found), leaves(sheet))

    def test_two_lands_of_one_colour_never_touch(self):
        for sheet in sheets_to_ask():
            land_of = {code: at for at, land in enumerate(lands(sheet)) for code, other in land[1]}
            colour_of = dict(leaves_from(sheet))
            for code, side, other in contacts(sheet):
                self.assertEqual(land_of[code] == land_of[other], colour_of[code] == colour_of[other])

    def test_level_40(self):
        sheet = spot(40, LONG, 1, 0)
        ground = [code for code, colour in leaves(sheet) if colour == 0]
        self.assert_lands(sheet, [(0, ground), (1, [LONG])])
        # The spot in the first corner: its code comes ahead of all others.
        sheet = spot(40, "0" * 40, 1, 0)
        self.assert_lands(sheet, [(1, ["0" * 40]), (0, [code for code, colour in leaves(sheet)][1:])])
        # Four squares round the middle, and the ground all round them.
        tree = ((0, 0, 0, 1), (0, 0, 1, 0), (0, 1, 0, 0), (1, 0, 0, 0))
        self.assert_lands((40, tree), [
            (0, ["00", "01", "02", "10", "11", "13", "20", "22", "23", "31", "32", "33"]),
            (1, ["03", "12", "21", "30"]),
        ])

    def test_some_thousand_leaves_in_a_short_time(self):
        for level in [6, 40]:
            self.assertEqual(len(answer_in_short(self, lands, chequered(level, 6, 1, 2))), 4096)
            told = answer_in_short(self, lands, (level, snake()[1]))
            self.assertEqual([(colour, len(members)) for colour, members in told], [(1, 2080)] + [(0, 63)] * 32)

    def test_the_lists_are_the_askers_own(self):
        for sheet in [(0, 0), (40, 5), (1, (5, 5, 6, 6)), WITHIN, spot(40, LONG, 1, 0)]:
            assert_own_list(self, lands, sheet)


class Rim(unittest.TestCase):
    def test_one_place(self):
        self.assertEqual(answer_of(self, rim, (0, 5), 0, 0), 4)
        self.assertEqual(rim(spot(2, "03", 1, 0), 1, 1), 4)
        self.assertEqual(rim(spot(40, LONG, 1, 0), *place_of(LONG)), 4)

    def test_plain_sheets(self):
        for level in [0, 1, 3, 40]:
            wide = 2 ** level
            for x, y in [(0, 0), (wide - 1, 0), (wide // 2, wide - 1)]:
                self.assertEqual(answer_of(self, rim, (level, 9), x, y), 4 * wide)

    def test_at_the_end_of_the_sheet(self):
        for level in [1, 40]:
            half = 2 ** level // 2
            self.assertEqual(rim((level, (5, 5, 6, 7)), 0, 0), 6 * half)
            self.assertEqual(rim((level, (5, 6, 5, 5)), 0, 0), 8 * half)
            self.assertEqual(rim((level, (5, 6, 5, 5)), half, 0), 4 * half)

    def test_with_holes(self):
        sheet = from_rows("1111", "1011", "1101", "1111")
        self.assertEqual(rim(sheet, 0, 0), 16 + 4 + 4)
        self.assertEqual(rim(WITHIN, 0, 0), 32 + 24)
        self.assertEqual(rim(WITHIN, 1, 1), 24 + 16)
        self.assertEqual(rim(WITHIN, 2, 2), 16 + 8)
        self.assertEqual(rim(WITHIN, 3, 3), 8)

    def test_a_land_that_meets_itself_in_a_corner(self):
        # 7 places of which 6 times two lie beside one another, then 11 and 10 times two.
        self.assertEqual(rim(from_rows("1100", "1010", "1110", "0000"), 0, 0), 4 * 7 - 2 * 6)
        self.assertEqual(rim(from_rows("1110", "1010", "1101", "0111"), 0, 0), 4 * 11 - 2 * 10)

    def test_by_places(self):
        for sheet in sheets_to_ask():
            picture = picture_of(sheet)
            for place in sorted(picture)[::3]:
                self.assertEqual(answer_of(self, rim, sheet, *place), rim_from(picture, place))

    def test_each_place_of_a_land_tells_the_same(self):
        picture = picture_of(WITHIN)
        for place in picture:
            self.assertEqual(rim(WITHIN, *place), rim_from(picture, place))

    def test_level_40(self):
        sheet = spot(40, LONG, 1, 0)
        self.assertEqual(rim(sheet, LAST, LAST), 4 * 2 ** 40 + 4)
        # A spot at the end of the sheet takes as much from the rim as it brings.
        self.assertEqual(rim(spot(40, "3" * 40, 1, 0), 0, 0), 4 * 2 ** 40)
        self.assertEqual(rim(spot(40, "1" * 39 + "3", 1, 0), 0, 0), 4 * 2 ** 40 + 2)
        cross = ((0, 0, 0, 1), (0, 0, 1, 0), (0, 1, 0, 0), (1, 0, 0, 0))
        self.assertEqual(rim((40, cross), 0, 0), 6 * 2 ** 40)
        self.assertEqual(rim((40, cross), 2 ** 39, 2 ** 39), 2 * 2 ** 40)

    def test_of_what_the_land_has_in_common_with_others(self):
        for sheet in sheets_to_ask()[::2] + [(40, (FOUR, 1, FOUR, 2)), spot(40, LONG, 1, 0)]:
            colour_of = dict(leaves(sheet))
            near = touches(sheet)
            for colour, members in lands(sheet):
                codes = [code for code, other in members]
                outer = [pair for pair in near if (pair[0] in codes) != (pair[1] in codes)]
                told = rim(sheet, *place_of(codes[0].ljust(sheet[0], "0")))
                ends = sum(ends_of(code, sheet[0]) for code in codes)
                self.assertEqual(told, ends + sum(common(one, two, sheet[0]) for one, two in outer))
                self.assertEqual({colour_of[code] for code in codes}, {colour})

    def test_some_thousand_leaves_in_a_short_time(self):
        self.assertEqual(answer_in_short(self, rim, snake(), 0, 0), 2 * 2080 + 2)
        self.assertEqual(answer_in_short(self, rim, (40, snake()[1]), 0, 0), (2 * 2080 + 2) * 2 ** 34)
        self.assertEqual(answer_in_short(self, rim, chequered(40, 6, 1, 2), 0, LAST), 4 * 2 ** 34)

    def test_refusals(self):
        assert_needs_a_place(self, rim, [(0, 0), (1, FOUR), (3, 5), WITHIN, spot(40, "0" * 40, 1, 0)])


def ends_of(code, level):
    # How many places' sides of the square lie at the sheet's end.
    wide = 2 ** (level - len(code))
    return wide * sum(set(code) <= set(along) for along in ("01", "13", "23", "02"))
