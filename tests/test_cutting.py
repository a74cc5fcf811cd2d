import unittest

from quartersheet.cutting import laid, part_at, put_in, window
from quartersheet.errors import NoCode, NoColour, NoLevel
from quartersheet.painting import painted
from quartersheet.sheets import quarters
from tests.helper import (
    NO_CODES, NO_COLOURS, NO_LEVELS, THIRTY, answer_of, assert_refused, chequered, codes_up_to, drawn, picture_of,
    places_of, sheet_from, small_sheets, speckled, spot,
)

LONG = "0123" * 10
FOUR = (0, 1, 2, 3)
# At sheets of 8 places: within, over each side and each corner, just beside, and far off on either side.
STARTS = [-THIRTY, -64, -17, -9, -8, -7, -5, -4, -3, -2, -1, 0, 1, 2, 3, 4, 5, 7, 8, 9, 16, 63, 64, THIRTY]


def short_sheets():
    return [sheet for level in range(4) for sheet in [(level, 4), drawn(level, 5, 3, 9), speckled(level, 6)]]


class PartAt(unittest.TestCase):
    def test_ordinary(self):
        sheet = (3, (0, (4, 5, FOUR, 6), 7, 8))
        for code, part in [
            ("", sheet), ("0", (2, 0)), ("03", (1, 0)), ("033", (0, 0)), ("1", (2, (4, 5, FOUR, 6))), ("11", (1, 5)),
            ("12", (1, FOUR)), ("122", (0, 2)), ("3", (2, 8)),
        ]:
            self.assertEqual(answer_of(self, part_at, sheet, code), part)

    def test_by_places(self):
        for sheet in small_sheets():
            level = sheet[0]
            picture = picture_of(sheet)
            for code in codes_up_to(level)[::1 if level < 4 else 3]:
                left, top = min(places_of(code, level))
                picture_there = {(x - left, y - top): picture[(x, y)] for x, y in places_of(code, level)}
                expected = sheet_from(level - len(code), picture_there)
                self.assertEqual(answer_of(self, part_at, sheet, code), expected)

    def test_quarters(self):
        for sheet in small_sheets() + [spot(40, LONG, 1, 0), (40, 2)]:
            if sheet[0] > 0:
                self.assertEqual(tuple(part_at(sheet, code) for code in "0123"), quarters(sheet))

    def test_level_40(self):
        sheet = spot(40, LONG, 1, 0)
        for signs in range(41):
            self.assertEqual(part_at(sheet, LONG[:signs]), spot(40 - signs, LONG[signs:], 1, 0))
        self.assertEqual(part_at(sheet, "3" * 40), (0, 0))
        self.assertEqual(part_at((40, 35), "3" * 17), (23, 35))
        self.assertEqual(part_at(chequered(40, 6, 1, 2), "0123"), chequered(36, 2, 1, 2))

    def test_refusals(self):
        for thing in NO_CODES:
            assert_refused(self, NoCode, part_at, (40, FOUR), thing)
        for level in [0, 1, 3, 39]:
            for signs in [level + 1, level + 2, 40]:
                assert_refused(self, NoCode, part_at, (level, 0), "0" * signs)
        assert_refused(self, NoCode, part_at, (1, FOUR), "00")


class PutIn(unittest.TestCase):
    def test_ordinary(self):
        sheet = (3, (0, (4, 5, FOUR, 6), 7, 8))
        for code, other, whole in [
            ("", (3, 9), (3, 9)), ("", sheet, sheet), ("0", (2, 9), (3, (9, (4, 5, FOUR, 6), 7, 8))),
            ("12", (1, 9), (3, (0, (4, 5, 9, 6), 7, 8))), ("2", (2, FOUR), (3, (0, (4, 5, FOUR, 6), FOUR, 8))),
            ("021", (0, 9), (3, ((0, 0, (0, 9, 0, 0), 0), (4, 5, FOUR, 6), 7, 8))),
            ("11", (1, FOUR), (3, (0, (4, FOUR, FOUR, 6), 7, 8))),
        ]:
            self.assertEqual(answer_of(self, put_in, sheet, code, other), whole)

    def test_four_quarters_of_one_colour_come_together(self):
        self.assertEqual(put_in((1, (5, 5, 0, 5)), "2", (0, 5)), (1, 5))
        self.assertEqual(put_in((2, (5, 5, 5, (5, 5, 5, 0))), "33", (0, 5)), (2, 5))
        self.assertEqual(put_in((2, (5, 5, 6, (5, 5, 5, 0))), "33", (0, 5)), (2, (5, 5, 6, 5)))
        self.assertEqual(put_in((2, (5, 5, 5, FOUR)), "3", (1, 5)), (2, 5))
        self.assertEqual(put_in(spot(40, LONG, 1, 0), LONG, (0, 0)), (40, 0))

    def test_by_places(self):
        for sheet in small_sheets(3):
            level = sheet[0]
            for code in codes_up_to(level):
                for other in [other for other in short_sheets() if other[0] == level - len(code)]:
                    left, top = min(places_of(code, level))
                    picture = picture_of(sheet)
                    picture.update({(x + left, y + top): colour for (x, y), colour in picture_of(other).items()})
                    whole = answer_of(self, put_in, sheet, code, other)
                    self.assertEqual(whole, sheet_from(level, picture))
                    self.assertEqual(part_at(whole, code), other)

    def test_what_is_there_put_in_again(self):
        for sheet in small_sheets():
            for code in codes_up_to(sheet[0])[::7]:
                self.assertEqual(put_in(sheet, code, part_at(sheet, code)), sheet)

    def test_level_40(self):
        for signs in [0, 1, 17, 39, 40]:
            other = spot(40 - signs, LONG[signs:], 1, 0)
            self.assertEqual(put_in((40, 0), LONG[:signs], other), spot(40, LONG, 1, 0))
            self.assertEqual(part_at(put_in(spot(40, "3" * 40, 7, 8), LONG[:signs], other), LONG[:signs]), other)
        self.assertEqual(put_in((40, 0), "3" * 40, (0, 1)), painted((40, 0), "3" * 40, 1))
        self.assertEqual(put_in(chequered(40, 6, 1, 2), "", (40, 3)), (40, 3))

    def test_refusals(self):
        for thing in NO_CODES:
            assert_refused(self, NoCode, put_in, (40, FOUR), thing, (40, 0))
        for level in [0, 1, 3, 39]:
            for signs in [level + 1, level + 2, 40]:
                assert_refused(self, NoCode, put_in, (level, 0), "0" * signs, (0, 0))
        for level, code, other in [
            (0, "", 1), (3, "", 2), (3, "", 4), (3, "0", 3), (3, "0", 1), (3, "012", 1), (40, LONG, 1), (40, "", 39),
            (40, "3", 40), (40, "3", 0),
        ]:
            assert_refused(self, NoLevel, put_in, (level, 0), code, (other, 0))
            assert_refused(self, NoLevel, put_in, (level, 0), code, (other, 1))

    def test_of_two_refusals_the_code_comes_first(self):
        for thing in NO_CODES + ["0000"]:
            for level in [0, 4, 40]:
                assert_refused(self, NoCode, put_in, (3, FOUR), thing, (level, 0))


class Window(unittest.TestCase):
    def test_within(self):
        sheet = (3, (0, (4, 5, FOUR, 6), 7, 8))
        self.assertEqual(window(sheet, 0, 0, 3, 9), sheet)
        self.assertEqual(window(sheet, 4, 0, 2, 9), (2, (4, 5, FOUR, 6)))
        self.assertEqual(window(sheet, 4, 2, 0, 9), (0, 0))
        self.assertEqual(window(sheet, 5, 3, 0, 9), (0, 3))
        self.assertEqual(window(sheet, 5, 1, 1, 9), (1, (4, 5, 1, 6)))
        self.assertEqual(window(sheet, 0, 3, 1, 9), (1, (0, 0, 7, 7)))

    def test_over_sides_and_corners(self):
        sheet = (1, FOUR)
        for x, y, parts in [
            (-1, 0, (9, 0, 9, 2)), (1, 0, (1, 9, 3, 9)), (0, -1, (9, 9, 0, 1)), (0, 1, (2, 3, 9, 9)),
            (-1, -1, (9, 9, 9, 0)), (1, -1, (9, 9, 1, 9)), (-1, 1, (9, 2, 9, 9)), (1, 1, (3, 9, 9, 9)),
        ]:
            self.assertEqual(window(sheet, x, y, 1, 9), (1, parts))
        self.assertEqual(window(sheet, 1, 1, 1, 3), (1, 3))

    def test_outside(self):
        for sheet in [(0, 0), (1, FOUR), chequered(6, 6, 1, 2)]:
            for level in [0, 1, 6]:
                wide, size = 2 ** sheet[0], 2 ** level
                for x, y in [(wide, 0), (-size, 0), (0, wide), (0, -size), (THIRTY, 0), (0, -THIRTY),
                             (THIRTY, THIRTY), (-THIRTY, -THIRTY), (-THIRTY, THIRTY), (-size, wide),
                             (10 ** 299, -10 ** 299)]:
                    self.assertEqual(window(sheet, x, y, level, 35), (level, 35))

    def test_by_places(self):
        for sheet in short_sheets():
            picture = picture_of(sheet)
            for level in range(5):
                for x in STARTS[1:-1:2] + [-THIRTY]:
                    for y in STARTS[2:-1:2] + [THIRTY]:
                        seen = {(i, j): picture.get((x + i, y + j), 4) for i, j in places_of("", level)}
                        self.assertEqual(window(sheet, x, y, level, 4), sheet_from(level, seen), (sheet, x, y, level))

    def test_each_start_of_small_sheets(self):
        for sheet in [speckled(2, 3, 3), (2, (0, 1, 1, FOUR)), drawn(1, 4)]:
            picture = picture_of(sheet)
            for level in range(4):
                for x in range(-9, 6):
                    for y in range(-9, 6):
                        seen = {(i, j): picture.get((x + i, y + j), 0) for i, j in places_of("", level)}
                        told = answer_of(self, window, sheet, x, y, level, 0)
                        self.assertEqual(told, sheet_from(level, seen))

    def test_level_6(self):
        windows = [(0, 0, 6), (1, 0, 6), (-1, 63, 6), (17, -5, 6), (31, 31, 1), (63, 63, 0), (63, 64, 0), (-32, 5, 6)]
        for sheet in [(6, 3), drawn(6, 1, 4, 12), speckled(6, 2), chequered(6, 6, 1, 2)]:
            picture = picture_of(sheet)
            for x, y, level in windows:
                seen = {(i, j): picture.get((x + i, y + j), 35) for i, j in places_of("", level)}
                self.assertEqual(window(sheet, x, y, level, 35), sheet_from(level, seen))
        self.assertEqual(window((0, 5), -63, -63, 6, 0), spot(6, "3" * 6, 5, 0))
        self.assertEqual(window((0, 5), 0, 0, 6, 0), spot(6, "0" * 6, 5, 0))

    def test_refusals(self):
        for level in [7, 8, 39, 40]:
            assert_refused(self, NoLevel, window, (level, 0), 0, 0, 3, 0)
            assert_refused(self, NoLevel, window, (level, FOUR), THIRTY, 0, 0, 0)
            assert_refused(self, NoLevel, window, (3, 0), 0, 0, level, 0)
            assert_refused(self, NoLevel, window, (3, 0), THIRTY, -THIRTY, level, 0)
        for thing in NO_LEVELS:
            assert_refused(self, NoLevel, window, (3, 0), 0, 0, thing, 0)
        for thing in NO_COLOURS:
            assert_refused(self, NoColour, window, (3, 0), 0, 0, 3, thing)
            assert_refused(self, NoColour, window, (6, FOUR), THIRTY, 0, 6, thing)
            assert_refused(self, NoColour, window, (0, 0), 0, 0, 0, thing)

    def test_of_two_refusals_the_level_comes_first(self):
        for colour in NO_COLOURS:
            assert_refused(self, NoLevel, window, (7, 0), 0, 0, 3, colour)
            for level in NO_LEVELS + [7, 40]:
                assert_refused(self, NoLevel, window, (3, 0), 0, 0, level, colour)


class Laid(unittest.TestCase):
    def laid_by_places(self, sheet, x, y, other):
        picture = picture_of(other)
        for (i, j), colour in picture_of(sheet).items():
            if (x + i, y + j) in picture:
                picture[(x + i, y + j)] = colour
        return sheet_from(other[0], picture)

    def test_within(self):
        self.assertEqual(laid((0, 9), 0, 0, (1, FOUR)), (1, (9, 1, 2, 3)))
        self.assertEqual(laid((0, 9), 1, 0, (1, FOUR)), (1, (0, 9, 2, 3)))
        self.assertEqual(laid((0, 9), 0, 1, (1, FOUR)), (1, (0, 1, 9, 3)))
        self.assertEqual(laid((1, FOUR), 2, 0, (2, 5)), (2, (5, FOUR, 5, 5)))
        self.assertEqual(laid((1, FOUR), 1, 1, (2, 5)), (2, ((5, 5, 5, 0), (5, 5, 1, 5), (5, 2, 5, 5), (3, 5, 5, 5))))

    def test_over_sides_and_corners(self):
        for x, y, parts in [
            (-1, 0, (1, 5, 3, 5)), (1, 0, (5, 0, 5, 2)), (0, -1, (2, 3, 5, 5)), (0, 1, (5, 5, 0, 1)),
            (-1, -1, (3, 5, 5, 5)), (1, -1, (5, 2, 5, 5)), (-1, 1, (5, 5, 1, 5)), (1, 1, (5, 5, 5, 0)),
        ]:
            self.assertEqual(laid((1, FOUR), x, y, (1, 5)), (1, parts))

    def test_one_that_covers_all(self):
        for sheet in [(3, 7), drawn(3, 2, 4, 9), speckled(3, 2)]:
            for other in [(3, 0), speckled(3, 8)]:
                self.assertEqual(laid(sheet, 0, 0, other), sheet)
        self.assertEqual(laid((6, 7), -17, -40, speckled(3, 1)), (3, 7))
        self.assertEqual(laid((2, (0, 1, 2, FOUR)), -2, -2, (1, 9)), (1, FOUR))
        self.assertEqual(laid((2, (0, 1, 2, FOUR)), -2, -1, (1, 9)), (1, (1, 1, 0, 1)))

    def test_nothing_is_left_of_it(self):
        for sheet in [(0, 9), (2, 9), speckled(3, 4), (6, 9)]:
            for other in [(0, 5), (1, FOUR), speckled(3, 8), (6, 5)]:
                wide, size = 2 ** sheet[0], 2 ** other[0]
                for x, y in [(size, 0), (0, size), (-wide, 0), (0, -wide), (THIRTY, 0), (0, THIRTY), (-THIRTY, 0),
                             (-THIRTY, -THIRTY), (THIRTY, -THIRTY), (-wide, size), (10 ** 299, 10 ** 299)]:
                    self.assertEqual(laid(sheet, x, y, other), other)

    def test_by_places(self):
        for sheet in short_sheets():
            for other in short_sheets():
                for x in STARTS[1::2]:
                    for y in STARTS[::3]:
                        self.assertEqual(laid(sheet, x, y, other), self.laid_by_places(sheet, x, y, other))

    def test_each_start_of_small_sheets(self):
        for sheet in [speckled(1, 2, 3), (2, (0, 1, 1, FOUR)), drawn(2, 4)]:
            for other in [speckled(2, 3, 3), (3, (4, (4, 5, 6, 4), FOUR, 4))]:
                for x in range(-6, 10):
                    for y in range(-6, 10):
                        told = answer_of(self, laid, sheet, x, y, other)
                        self.assertEqual(told, self.laid_by_places(sheet, x, y, other))

    def test_four_quarters_of_one_colour_come_together(self):
        self.assertEqual(laid((0, 5), 1, 1, (1, (5, 5, 5, 0))), (1, 5))
        self.assertEqual(laid((2, 5), 2, -1, (2, (5, (5, 5, 5, 0), 5, (0, 0, 5, 5)))), (2, 5))

    def test_level_6(self):
        sheet, other = drawn(6, 3, 4, 12), speckled(6, 4)
        for x, y in [(0, 0), (1, 1), (-1, 5), (63, -63), (-63, 63), (31, -17)]:
            self.assertEqual(laid(sheet, x, y, other), self.laid_by_places(sheet, x, y, other))
            self.assertEqual(laid(other, x, y, sheet), self.laid_by_places(other, x, y, sheet))
        self.assertEqual(laid((0, 5), 63, 63, (6, 0)), spot(6, "3" * 6, 5, 0))

    def test_refusals(self):
        for level in [7, 8, 39, 40]:
            assert_refused(self, NoLevel, laid, (level, 0), 0, 0, (3, 0))
            assert_refused(self, NoLevel, laid, (3, 0), 0, 0, (level, 0))
            assert_refused(self, NoLevel, laid, (level, FOUR), THIRTY, 0, (level, 0))
            assert_refused(self, NoLevel, laid, (0, 0), THIRTY, -THIRTY, (level, FOUR))
