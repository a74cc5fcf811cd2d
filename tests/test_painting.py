import unittest

from quartersheet.errors import NoCode, NoColour, NoLevel
from quartersheet.painting import painted, unlike
from quartersheet.sheets import colour_at, joined, plain
from tests.helper import (
    NO_CODES, NO_COLOURS, answer_of, assert_refused, chequered, codes_of_length, codes_up_to, pairs_of_small_sheets,
    picture_of, places_of, sheet_from, small_sheets, spot,
)

LAST = 2 ** 40 - 1
HALF = 2 ** 39
LONG = "0123" * 10


class Painted(unittest.TestCase):
    def test_the_whole_sheet(self):
        for sheet in small_sheets() + [spot(40, LONG, 1, 0)]:
            self.assertEqual(answer_of(self, painted, sheet, "", 35), (sheet[0], 35))

    def test_some_signs(self):
        self.assertEqual(painted((1, 0), "2", 7), (1, (0, 0, 7, 0)))
        self.assertEqual(painted((3, 0), "2", 7), (3, (0, 0, 7, 0)))
        self.assertEqual(painted((3, 0), "21", 7), (3, (0, 0, (0, 7, 0, 0), 0)))
        self.assertEqual(painted((3, (0, 0, (0, 7, 0, 0), 0)), "2", 1), (3, (0, 0, 1, 0)))

    def test_level_40(self):
        for code in ["", "1", "30", LONG[:39], LONG, "0" * 40, "3" * 40]:
            self.assertEqual(painted((40, 0), code, 35), spot(40, code, 35, 0))
            self.assertEqual(painted(spot(40, code, 35, 0), code, 0), (40, 0))

    def test_over_and_back(self):
        for sheet in small_sheets():
            for code in ["", "0", "13", "203", "0123"]:
                if len(code) <= sheet[0] and len({picture_of(sheet)[at] for at in places_of(code, sheet[0])}) == 1:
                    colour = colour_at(sheet, *places_of(code, sheet[0])[0])
                    over = painted(sheet, code, 34)
                    self.assertNotEqual(over, sheet)
                    self.assertEqual(painted(over, code, colour), sheet)
                    self.assertEqual(painted(sheet, code, colour), sheet)

    def test_by_places(self):
        for sheet in small_sheets():
            level = sheet[0]
            deep = codes_of_length(level)[::7] + codes_of_length(max(level - 1, 0))[::5]
            for code in codes_up_to(min(level, 2)) + deep:
                for colour in [0, 1, 35]:
                    picture = picture_of(sheet)
                    picture.update({place: colour for place in places_of(code, level)})
                    self.assertEqual(answer_of(self, painted, sheet, code, colour), sheet_from(level, picture))

    def test_the_same_picture_in_other_orders(self):
        codes = ["00", "01", "02", "03", "10", "2", "3", "11", "12", "130", "131", "132", "133"]
        for turn in range(len(codes)):
            sheet = plain(3, 5)
            for code in codes[turn:] + codes[:turn]:
                sheet = painted(sheet, code, 6)
            self.assertEqual(sheet, (3, 6))
        one = painted(painted(plain(40, 0), LONG, 1), "1", 2)
        other = painted(painted(plain(40, 0), "1", 2), LONG, 1)
        self.assertEqual(one, other)

    def test_the_same_picture_by_joined(self):
        for sheet in small_sheets(3):
            whole = joined(plain(sheet[0], 4), sheet, sheet, plain(sheet[0], 0))
            by_paint = plain(sheet[0] + 1, 4)
            for (x, y), colour in picture_of(sheet).items():
                code = [code for code in codes_of_length(sheet[0]) if places_of(code, sheet[0]) == [(x, y)]][0]
                by_paint = painted(painted(by_paint, "1" + code, colour), "2" + code, colour)
            self.assertEqual(painted(by_paint, "3", 0), whole)

    def test_every_place_of_a_sheet_one_by_one(self):
        for codes in [codes_of_length(4), codes_of_length(4)[::-1]]:
            sheet = plain(4, 0)
            for code in codes:
                sheet = painted(sheet, code, 1)
            self.assertEqual(sheet, (4, 1))

    def test_many_leaves(self):
        sheet = chequered(40, 6, 1, 2)
        self.assertEqual(painted(sheet, "", 1), (40, 1))
        self.assertEqual(colour_at(painted(sheet, "3" * 40, 7), LAST, LAST), 7)

    def test_refusals(self):
        for thing in NO_CODES:
            assert_refused(self, NoCode, painted, (40, 0), thing, 0)
        for level in [0, 1, 3, 39]:
            for signs in [level + 1, level + 2, 40]:
                assert_refused(self, NoCode, painted, (level, 0), "3" * signs, 0)
        assert_refused(self, NoCode, painted, (2, (0, 1, 2, 3)), "000", 0)
        for thing in NO_COLOURS:
            assert_refused(self, NoColour, painted, (3, 0), "", thing)
            assert_refused(self, NoColour, painted, (40, (0, 1, 2, 3)), LONG, thing)

    def test_of_two_refusals_the_code_comes_first(self):
        for colour in NO_COLOURS:
            for thing in NO_CODES[::3] + ["0000"]:
                assert_refused(self, NoCode, painted, (3, 0), thing, colour)


class Unlike(unittest.TestCase):
    def both_ways(self, one, other, place):
        self.assertEqual(answer_of(self, unlike, one, other), place)
        self.assertEqual(answer_of(self, unlike, other, one), place)

    def test_equal_sheets(self):
        for sheet in small_sheets() + [(40, 3), spot(40, LONG, 1, 0), chequered(40, 6, 1, 2)]:
            self.assertIsNone(unlike(sheet, sheet))
        for sheet in small_sheets():
            self.assertIsNone(unlike(sheet, sheet_from(sheet[0], picture_of(sheet))))

    def test_plain_sheets(self):
        for level in [0, 1, 3, 40]:
            self.both_ways((level, 0), (level, 1), (0, 0))

    def test_one_place(self):
        for sheet in small_sheets():
            level = sheet[0]
            for code in codes_of_length(level):
                self.both_ways(sheet, painted(sheet, code, 33), places_of(code, level)[0])

    def test_the_order_of_codes_and_not_of_rows(self):
        sheet = plain(2, 0)
        # The square 0 comes ahead of 1, though (2, 0) stands in a row above (0, 1).
        self.both_ways(sheet, painted(painted(sheet, "10", 1), "02", 1), (0, 1))
        # And 2 ahead of 3, though (2, 2) stands above (0, 3); 1 ahead of 2, though (0, 2) is further left.
        self.both_ways(sheet, painted(painted(sheet, "30", 1), "22", 1), (0, 3))
        self.both_ways(sheet, painted(painted(sheet, "13", 1), "20", 1), (3, 1))

    def test_by_places(self):
        for one, other in pairs_of_small_sheets():
            level = one[0]
            first, second = picture_of(one), picture_of(other)
            places = [places_of(code, level)[0] for code in codes_of_length(level)]
            differ = [place for place in places if first[place] != second[place]]
            self.assertEqual(unlike(one, other), differ[0] if differ else None)

    def test_level_40(self):
        for code, place in [
            ("0" * 40, (0, 0)), ("3" * 40, (LAST, LAST)), ("1" * 40, (LAST, 0)), ("2" * 40, (0, LAST)),
            ("3" + "0" * 39, (HALF, HALF)), ("1" + "2" * 39, (HALF, HALF - 1)), ("2", (0, HALF)), ("", (0, 0)),
        ]:
            self.both_ways((40, 0), painted((40, 0), code, 1), place)
        one = spot(40, "3" * 40, 1, 0)
        self.both_ways(one, painted(one, "2" * 40, 5), (0, LAST))
        self.both_ways(chequered(40, 6, 1, 2), painted(chequered(40, 6, 1, 2), "3" * 40, 9), (LAST, LAST))

    def test_kinds_of_the_answer(self):
        answer = unlike((40, 0), (40, 1))
        self.assertIs(type(answer), tuple)
        self.assertEqual([type(part) for part in answer], [int, int])

    def test_refusals(self):
        for one, other in [(0, 1), (1, 0), (3, 2), (39, 40), (40, 0)]:
            assert_refused(self, NoLevel, unlike, (one, 0), (other, 0))
            assert_refused(self, NoLevel, unlike, (one, 0), (other, 1))
