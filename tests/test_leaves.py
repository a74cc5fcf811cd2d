import itertools
import unittest

from quartersheet.errors import Gap, NoCode, NoColour, NoLevel, NoPlace, Twice
from quartersheet.leaves import areas, leaf_at, leaves, settled, sheet_of
from quartersheet.painting import painted
from quartersheet.sheets import joined, plain
from tests.helper import (
    NO_CODES, NO_COLOURS, NO_LEVELS, answer_of, assert_own_list, assert_refused, chequered, codes_of_length,
    leaves_from, no_places, picture_of, places_of, small_sheets, spot,
)

LAST = 2 ** 40 - 1
LONG = "0123" * 10
FOUR = [("0", 1), ("1", 2), ("2", 3), ("3", 4)]


def finer(row, level, at):
    # The same picture told by more squares: those of every third leaf from at on are parted as far as can be.
    cover = []
    for place, (code, colour) in enumerate(row):
        signs = level - len(code) if place % 3 == at else 0
        cover += [(code + more, colour) for more in codes_of_length(signs)]
    return cover


def deep_cover(colour, ground):
    # 4096 places below a square far down, and the ground round it.
    around = [(code, ground) for code, other in leaves(spot(40, LONG[:34], 1, 0)) if code != LONG[:34]]
    return sorted(around + [(LONG[:34] + code, colour) for code in codes_of_length(6)])


class Leaves(unittest.TestCase):
    def test_plain_sheets(self):
        for level in [0, 1, 3, 40]:
            for colour in [0, 35]:
                self.assertEqual(answer_of(self, leaves, (level, colour)), [("", colour)])

    def test_painted_at_several_depths(self):
        self.assertEqual(leaves((1, (1, 2, 3, 4))), FOUR)
        self.assertEqual(leaves((40, (1, 2, 3, 4))), FOUR)
        sheet = painted(painted(plain(3, 0), "12", 5), "3", 6)
        self.assertEqual(leaves(sheet), [("0", 0), ("10", 0), ("11", 0), ("12", 5), ("13", 0), ("2", 0), ("3", 6)])
        sheet = painted(plain(3, 0), "013", 5)
        self.assertEqual(leaves(sheet), [
            ("00", 0), ("010", 0), ("011", 0), ("012", 0), ("013", 5), ("02", 0), ("03", 0),
            ("1", 0), ("2", 0), ("3", 0),
        ])

    def test_level_40(self):
        row = leaves(spot(40, LONG, 1, 0))
        expected = [(LONG, 1)]
        for signs in range(40):
            expected += [(LONG[:signs] + sign, 0) for sign in "0123" if sign != LONG[signs]]
        self.assertEqual(row, sorted(expected))
        self.assertEqual(len(row), 121)

    def test_by_places(self):
        for sheet in small_sheets():
            self.assertEqual(answer_of(self, leaves, sheet), leaves_from(sheet))

    def test_one_row_in_whatever_way_the_sheet_was_made(self):
        one = painted(painted(plain(2, 0), "1", 5), "21", 6)
        other = joined(plain(1, 0), plain(1, 5), (1, (0, 6, 0, 0)), plain(1, 0))
        self.assertEqual(leaves(one), leaves(other))
        self.assertEqual(leaves(one), leaves(sheet_of(2, leaves(one)[::-1])))

    def test_many_leaves(self):
        for level in [6, 40]:
            row = leaves(chequered(level, 6, 1, 2))
            self.assertEqual([code for code, colour in row], codes_of_length(6))
            self.assertEqual([colour for code, colour in row], [1, 2, 2, 1] * 1024)

    def test_the_list_is_the_askers_own(self):
        for sheet in [(0, 0), (40, 35), (3, (0, 1, (0, 0, 1, 1), 2)), spot(40, LONG, 1, 0)]:
            assert_own_list(self, leaves, sheet)


class LeafAt(unittest.TestCase):
    def test_by_places(self):
        for sheet in small_sheets():
            leaf_of = {place: code for code, colour in leaves_from(sheet) for place in places_of(code, sheet[0])}
            for place in places_of("", sheet[0]):
                self.assertEqual(leaf_at(sheet, *place), leaf_of[place])

    def test_level_40(self):
        self.assertEqual(leaf_at((40, 3), LAST, 5), "")
        sheet = spot(40, "3" * 40, 1, 0)
        self.assertEqual(leaf_at(sheet, LAST, LAST), "3" * 40)
        self.assertEqual(leaf_at(sheet, LAST - 1, LAST), "3" * 39 + "2")
        self.assertEqual(leaf_at(sheet, LAST, 0), "1")
        self.assertEqual(leaf_at(sheet, LAST, LAST - 2), "3" * 38 + "1")

    def test_refusals(self):
        for sheet in [(0, 0), (1, (0, 1, 2, 3)), (3, 5), spot(40, "0" * 40, 1, 0)]:
            for thing in no_places(sheet[0]):
                assert_refused(self, NoPlace, leaf_at, sheet, thing, 0)
                assert_refused(self, NoPlace, leaf_at, sheet, 0, thing)
                assert_refused(self, NoPlace, leaf_at, sheet, thing, thing)


class SheetOf(unittest.TestCase):
    def test_one_square(self):
        for level in [0, 1, 40]:
            self.assertEqual(answer_of(self, sheet_of, level, [("", 35)]), (level, 35))

    def test_any_order(self):
        for cover in itertools.permutations(FOUR):
            self.assertEqual(answer_of(self, sheet_of, 1, list(cover)), (1, (1, 2, 3, 4)))
            self.assertEqual(answer_of(self, sheet_of, 40, list(cover)), (40, (1, 2, 3, 4)))

    def test_leaves_and_back(self):
        for sheet in small_sheets() + [spot(40, LONG, 1, 0), chequered(40, 6, 1, 2), chequered(6, 6, 1, 2)]:
            row = leaves(sheet)
            self.assertEqual(answer_of(self, sheet_of, sheet[0], row), sheet)
            self.assertEqual(answer_of(self, sheet_of, sheet[0], row[::-1]), sheet)
            self.assertEqual(answer_of(self, sheet_of, sheet[0], row[1::2] + row[::2]), sheet)

    def test_four_quarters_of_one_colour(self):
        self.assertEqual(sheet_of(1, [(sign, 7) for sign in "0123"]), (1, 7))
        self.assertEqual(sheet_of(40, [(sign, 7) for sign in "3120"]), (40, 7))
        self.assertEqual(sheet_of(3, FOUR[:3] + [("3" + sign, 4) for sign in "2301"]), (3, (1, 2, 3, 4)))
        for signs in range(1, 5):
            self.assertEqual(sheet_of(4, [(code, 7) for code in codes_of_length(signs)]), (4, 7))
        deep = leaves(spot(40, LONG, 1, 0))
        self.assertEqual(sheet_of(40, [(code, 0) for code, colour in deep]), (40, 0))

    def test_finer_covers(self):
        for sheet in small_sheets():
            for at in range(3):
                cover = finer(leaves(sheet), sheet[0], at)
                self.assertEqual(answer_of(self, sheet_of, sheet[0], cover), sheet)
                self.assertEqual(answer_of(self, sheet_of, sheet[0], cover[::-1]), sheet)

    def test_many_tuples(self):
        for cover in [deep_cover(1, 0), deep_cover(1, 0)[::-1]]:
            self.assertEqual(sheet_of(40, cover), spot(40, LONG[:34], 1, 0))
            assert_refused(self, Gap, sheet_of, 40, cover[:2000] + cover[2001:])
            assert_refused(self, Twice, sheet_of, 40, cover + cover[2000:2001])
        self.assertEqual(sheet_of(40, deep_cover(1, 1)), (40, 1))

    def test_no_level(self):
        for thing in NO_LEVELS:
            for cover in [[("", 0)], FOUR, []]:
                assert_refused(self, NoLevel, sheet_of, thing, cover)

    def test_bad_codes(self):
        for thing in NO_CODES:
            for at in range(5):
                assert_refused(self, NoCode, sheet_of, 40, FOUR[:at] + [(thing, 0)] + FOUR[at:])
            assert_refused(self, NoCode, sheet_of, 40, [(thing, 0)])
        for level in [0, 1, 3, 39]:
            assert_refused(self, NoCode, sheet_of, level, [("", 0), ("0" * (level + 1), 0)])
            assert_refused(self, NoCode, sheet_of, level, [("3" * 40, 0)])
        assert_refused(self, NoCode, sheet_of, 0, FOUR)

    def test_bad_colours(self):
        for thing in NO_COLOURS:
            for at in range(4):
                assert_refused(self, NoColour, sheet_of, 1, FOUR[:at] + [(FOUR[at][0], thing)] + FOUR[at + 1:])
            assert_refused(self, NoColour, sheet_of, 0, [("", thing)])

    def test_the_first_bad_tuple_decides(self):
        for code in NO_CODES[::5] + ["00"]:
            for colour in NO_COLOURS[::5]:
                bad = [(code, 0), ("2", colour)]
                assert_refused(self, NoCode, sheet_of, 1, FOUR[:2] + bad)
                assert_refused(self, NoColour, sheet_of, 1, FOUR[:2] + bad[::-1])
                assert_refused(self, NoCode, sheet_of, 1, [bad[0]] + FOUR + [bad[1]])
                assert_refused(self, NoColour, sheet_of, 1, [bad[1]] + FOUR + [bad[0]])
                assert_refused(self, NoCode, sheet_of, 1, [(code, colour)] + FOUR)
                assert_refused(self, NoCode, sheet_of, 1, [(code, colour), ("2", colour)])
                assert_refused(self, NoColour, sheet_of, 1, [("2", colour), (code, colour)])

    def test_twice(self):
        for level, cover in [
            (0, [("", 0), ("", 0)]), (0, [("", 0), ("", 1)]), (1, FOUR + [("2", 3)]), (1, FOUR + [("0", 9)]),
            (1, [("", 0), ("3", 0)]), (2, FOUR + [("12", 2)]), (40, FOUR + [("1" + "2" * 39, 2)]),
            (2, FOUR + [("", 0)]), (3, FOUR + [("10", 1), ("11", 1), ("12", 1), ("13", 1)]), (40, [("", 0), (LONG, 1)]),
            (3, [("0", 1), ("1", 1), ("2", 1), ("30", 1), ("31", 1), ("32", 1), ("33", 1), ("301", 1)]),
            (40, leaves(spot(40, LONG, 1, 0)) + [(LONG, 1)]), (40, leaves(spot(40, LONG, 1, 0)) + [(LONG[:39], 1)]),
        ]:
            for turn in range(min(len(cover), 9)):
                turned = cover[turn:] + cover[:turn]
                assert_refused(self, Twice, sheet_of, level, turned)
                assert_refused(self, Twice, sheet_of, level, turned[::-1])

    def test_gap(self):
        for level in [0, 1, 40]:
            assert_refused(self, Gap, sheet_of, level, [])
        for row in [FOUR, FOUR[:3] + [("3" + sign, 4) for sign in "0123"], leaves(spot(40, LONG, 1, 0))]:
            for at in range(len(row)):
                assert_refused(self, Gap, sheet_of, 40, row[:at] + row[at + 1:])
                assert_refused(self, Gap, sheet_of, 40, row[at + 1:] + row[:at])
                assert_refused(self, Gap, sheet_of, 40, [row[at]])
        # Where all that is there has one colour, what is not there is a gap none the less.
        assert_refused(self, Gap, sheet_of, 1, [("0", 7), ("1", 7), ("2", 7)])
        assert_refused(self, Gap, sheet_of, 40, [(LONG, 7)])

    def test_of_several_refusals(self):
        twice_and_gap = [("0", 1), ("0", 1), ("1", 2)]
        assert_refused(self, Twice, sheet_of, 1, twice_and_gap)
        # As many places as the sheet has, but one of them twice and one not at all.
        assert_refused(self, Twice, sheet_of, 1, [("0", 1), ("1", 2), ("2", 3), ("0", 1)])
        assert_refused(self, Twice, sheet_of, 3, [("3", 1), ("31", 2)])
        assert_refused(self, Twice, sheet_of, 3, [("31", 1), ("3", 2), ("0", 5)])
        for code in NO_CODES[::4] + ["00"]:
            for at in range(4):
                assert_refused(self, NoCode, sheet_of, 1, twice_and_gap[:at] + [(code, 0)] + twice_and_gap[at:])
                for level in NO_LEVELS[::4]:
                    cover = twice_and_gap[:at] + [(code, None)] + twice_and_gap[at:]
                    assert_refused(self, NoLevel, sheet_of, level, cover)
        for colour in NO_COLOURS:
            assert_refused(self, NoColour, sheet_of, 1, twice_and_gap + [("3", colour)])
            assert_refused(self, NoColour, sheet_of, 1, [("1", colour)] + twice_and_gap)
            assert_refused(self, NoColour, sheet_of, 1, [("0", colour)])


class Settled(unittest.TestCase):
    def test_nothing_to_settle(self):
        for sheet in small_sheets() + [(40, 3), spot(40, LONG, 1, 0), chequered(40, 6, 1, 2)]:
            row = leaves(sheet)
            self.assertEqual(answer_of(self, settled, row), row)

    def test_one_deep(self):
        self.assertEqual(settled([(sign, 7) for sign in "0123"]), [("", 7)])
        for at in range(4):
            cover = FOUR[:at] + [(str(at) + sign, 9) for sign in "0123"] + FOUR[at + 1:]
            self.assertEqual(answer_of(self, settled, cover), FOUR[:at] + [(str(at), 9)] + FOUR[at + 1:])

    def test_two_and_three_deep(self):
        for signs in [1, 2, 3]:
            more = codes_of_length(signs)
            self.assertEqual(settled([(code, 0) for code in more]), [("", 0)])
            for at in range(4):
                cover = FOUR[:at] + [(str(at) + code, 9) for code in more] + FOUR[at + 1:]
                self.assertEqual(answer_of(self, settled, cover), FOUR[:at] + [(str(at), 9)] + FOUR[at + 1:])

    def test_of_unlike_depths(self):
        codes = ["0", "1", "20", "21", "220", "221", "222", "223", "23", "3"]
        cover = [(code, 5) for code in codes]
        self.assertEqual(answer_of(self, settled, cover), [("", 5)])
        self.assertEqual(settled(cover[:-1] + [("3", 6)]), [("0", 5), ("1", 5), ("2", 5), ("3", 6)])
        deep = leaves(spot(40, LONG, 1, 0))
        self.assertEqual(settled([(code, 0) for code, colour in deep]), [("", 0)])

    def test_four_side_by_side_that_are_not_the_quarters_of_one(self):
        below = [("00", 1), ("01", 2), ("02", 5), ("03", 5), ("10", 5), ("11", 5), ("12", 2), ("13", 1)]
        cover = below + [("2", 3), ("3", 4)]
        self.assertEqual(settled(cover), cover)
        cover = [("0", 5), ("1", 5), ("2", 5), ("30", 5), ("31", 5), ("32", 5), ("33", 6)]
        self.assertEqual(settled(cover), cover)
        cover = [("00", 1), ("01", 5), ("02", 5), ("03", 5), ("1", 5), ("2", 5), ("3", 5)]
        self.assertEqual(settled(cover), cover)

    def test_finer_covers(self):
        for sheet in small_sheets():
            for at in range(3):
                cover = finer(leaves(sheet), sheet[0], at)
                self.assertEqual(answer_of(self, settled, cover), leaves_from(sheet))

    def test_many_tuples(self):
        self.assertEqual(settled([(code, 1) for code in codes_of_length(6)]), [("", 1)])
        self.assertEqual(settled(deep_cover(1, 0)), leaves(spot(40, LONG[:34], 1, 0)))
        self.assertEqual(settled(deep_cover(1, 1)), [("", 1)])

    def test_the_list_is_the_askers_own(self):
        for cover in [[("", 0)], FOUR, [(code, 0) for code in codes_of_length(2)]]:
            assert_own_list(self, settled, cover)


class Areas(unittest.TestCase):
    def test_plain_sheets(self):
        for level in [0, 1, 3, 40]:
            for colour in [0, 35]:
                self.assertEqual(areas((level, colour)), [(colour, 4 ** level)])

    def test_by_places(self):
        for sheet in small_sheets():
            colours = list(picture_of(sheet).values())
            expected = sorted((colour, colours.count(colour)) for colour in set(colours))
            self.assertEqual(answer_of(self, areas, sheet), expected)

    def test_sorted_by_colours(self):
        self.assertEqual(areas((1, (35, 10, 9, 2))), [(2, 1), (9, 1), (10, 1), (35, 1)])
        self.assertEqual(areas((2, (3, 3, (3, 3, 3, 0), 12))), [(0, 1), (3, 11), (12, 4)])

    def test_level_40(self):
        self.assertEqual(areas(spot(40, LONG, 1, 0)), [(0, 4 ** 40 - 1), (1, 1)])
        self.assertEqual(areas((40, (3, (0, 3, 3, 4), 3, 3))), [(0, 4 ** 38), (3, 4 ** 40 - 2 * 4 ** 38), (4, 4 ** 38)])
        self.assertEqual(areas(chequered(40, 6, 1, 2)), [(1, 4 ** 40 // 2), (2, 4 ** 40 // 2)])

    def test_they_come_to_all_places(self):
        for sheet in small_sheets() + [spot(40, "3" * 40, 7, 2), (40, (1, 2, 3, 1)), chequered(39, 5, 1, 2)]:
            self.assertEqual(sum(number for colour, number in areas(sheet)), 4 ** sheet[0])

    def test_the_list_is_the_askers_own(self):
        for sheet in [(0, 0), (40, 35), (3, (0, 1, (0, 0, 1, 1), 2)), spot(40, LONG, 1, 0)]:
            assert_own_list(self, areas, sheet)
