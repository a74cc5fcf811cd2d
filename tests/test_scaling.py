import unittest

from quartersheet.errors import NoLevel
from quartersheet.scaling import coarser, finer
from quartersheet.sheets import is_sheet
from tests.helper import (
    ODD, TEXTS, THIRTY, answer_in_short, answer_of, assert_refused, chequered, coarsened, drawn, from_rows, picture_of,
    places_of, sheet_from, small_sheets, speckled, spot,
)

LONG = "0123" * 10
FOUR = (0, 1, 2, 3)
LARGE = int("7" * 300)
NO_NUMBERS = ODD + TEXTS + [-1, -2, -40, -THIRTY, -LARGE, 41, 42, THIRTY, LARGE]


def coarser_by_places(sheet, number):
    return sheet_from(sheet[0] - number, coarsened(sheet[0], picture_of(sheet), number))


class Finer(unittest.TestCase):
    def test_by_0(self):
        for sheet in small_sheets() + [(40, 5), spot(40, LONG, 1, 0)]:
            self.assertEqual(answer_of(self, finer, sheet, 0), sheet)

    def test_by_places(self):
        for sheet in small_sheets(3):
            picture = picture_of(sheet)
            for number in range(3):
                size, level = 2 ** number, sheet[0] + number
                found = {(x, y): picture[(x // size, y // size)] for x, y in places_of("", level)}
                self.assertEqual(answer_of(self, finer, sheet, number), sheet_from(level, found))

    def test_up_to_level_40(self):
        self.assertEqual(finer((0, 5), 40), (40, 5))
        self.assertEqual(finer((1, FOUR), 39), (40, FOUR))
        self.assertEqual(finer(spot(39, LONG[:39], 1, 0), 1), spot(40, LONG[:39], 1, 0))
        self.assertTrue(is_sheet(finer(speckled(4, 1), 36)))

    def test_refusals(self):
        for sheet in [(0, 0), (1, FOUR), (3, 5), spot(20, LONG[:20], 1, 0), (40, 3), spot(40, LONG, 1, 0)]:
            for thing in NO_NUMBERS + [41 - sheet[0], 42 - sheet[0]]:
                assert_refused(self, NoLevel, finer, sheet, thing)
        assert_refused(self, NoLevel, finer, (40, 3), 1)
        assert_refused(self, NoLevel, finer, (39, 3), 2)
        assert_refused(self, NoLevel, finer, (0, 3), 41)


class Coarser(unittest.TestCase):
    def test_by_0(self):
        for sheet in small_sheets() + [(40, 5), spot(40, LONG, 1, 0)]:
            self.assertEqual(answer_of(self, coarser, sheet, 0), sheet)

    def test_the_most_frequent_colour(self):
        self.assertEqual(coarser((1, (3, 5, 5, 3)), 1), (0, 3))
        self.assertEqual(coarser((1, (5, 3, 3, 3)), 1), (0, 3))
        self.assertEqual(coarser((1, (3, 5, 5, 5)), 1), (0, 5))
        self.assertEqual(coarser((1, (35, 35, 0, 1)), 1), (0, 35))

    def test_of_several_the_lowest(self):
        self.assertEqual(coarser((1, (3, 2, 1, 0)), 1), (0, 0))
        self.assertEqual(coarser((1, (9, 10, 35, 34)), 1), (0, 9))
        self.assertEqual(coarser((1, (9, 9, 5, 5)), 1), (0, 5))
        self.assertEqual(coarser((2, (9, 5, 5, 9)), 2), (0, 5))
        self.assertEqual(coarser((2, (9, 5, 5, 9)), 1), (1, (9, 5, 5, 9)))

    def test_squares_of_unlike_widths(self):
        # Six places of 7 in three leaves, against five of 1 in five.
        sheet = from_rows("7712", "7713", "1147", "1587")
        self.assertEqual(coarser(sheet, 2), (0, 7))
        self.assertEqual(coarser(sheet, 1), (1, (7, 1, 1, 7)))
        # A wide leaf counts for more than several that are narrow.
        self.assertEqual(coarser((3, (9, (0, 0, 0, FOUR), 1, (1, 0, 0, FOUR))), 3), (0, 0))
        self.assertEqual(coarser((3, (9, (0, 2, 0, FOUR), 1, (1, 3, 0, FOUR))), 3), (0, 1))
        self.assertEqual(coarser((3, (9, (0, 2, 0, FOUR), 2, (9, 3, 0, FOUR))), 3), (0, 2))

    def test_quarters_of_one_colour_come_together(self):
        self.assertEqual(coarser((2, ((1, 1, 1, 0), (1, 1, 2, 1), 1, (3, 1, 1, 1))), 1), (1, 1))
        self.assertEqual(coarser(chequered(6, 6, 4, 2), 1), (5, 2))
        self.assertEqual(coarser(chequered(40, 6, 4, 2), 36), (4, 2))
        self.assertEqual(coarser(chequered(40, 6, 4, 2), 34), chequered(6, 6, 4, 2))

    def test_by_places(self):
        more = [speckled(4, seed, 3) for seed in range(4)] + [drawn(4, seed, 4, 15) for seed in range(50, 54)]
        for sheet in small_sheets() + more:
            for number in range(sheet[0] + 1):
                self.assertEqual(answer_of(self, coarser, sheet, number), coarser_by_places(sheet, number))

    def test_by_the_level_itself(self):
        for level in [0, 1, 3, 40]:
            self.assertEqual(coarser((level, 9), level), (0, 9))
        self.assertEqual(coarser((40, (5, 7, 7, 5)), 40), (0, 5))

    def test_level_40(self):
        sheet = spot(40, LONG, 1, 2)
        self.assertEqual(coarser(sheet, 0), sheet)
        self.assertEqual(coarser(sheet, 1), (39, 2))
        self.assertEqual(coarser(sheet, 40), (0, 2))
        # Just half of the places, and one more or less far down.
        self.assertEqual(coarser((40, (5, 7, 7, 5)), 39), (1, (5, 7, 7, 5)))
        self.assertEqual(coarser((40, (spot(39, LONG[:39], 7, 5)[1], 7, 7, 5)), 40), (0, 7))
        self.assertEqual(coarser((40, (5, 7, spot(39, LONG[:39], 5, 7)[1], 5)), 40), (0, 5))
        self.assertEqual(coarser((40, (5, 7, spot(39, LONG[:39], 1, 7)[1], 5)), 40), (0, 5))
        self.assertEqual(coarser((40, (spot(39, LONG[:39], 1, 5)[1], 7, 7, 5)), 40), (0, 7))
        self.assertEqual(coarser((40, (spot(39, LONG[:39], 1, 5)[1], 7, 7, 5)), 39), (1, (5, 7, 7, 5)))

    def test_finer_and_as_much_coarser(self):
        for sheet in small_sheets() + [spot(30, LONG[:30], 1, 0), (0, 35), (40, FOUR), chequered(20, 5, 1, 2)]:
            for number in [0, 1, 2, 40 - sheet[0]]:
                if sheet[0] + number <= 40:
                    self.assertEqual(coarser(finer(sheet, number), number), sheet)

    def test_in_two_deeds(self):
        # Not the same as in one, so each square is counted by its places.
        sheet = (2, ((1, 1, 2, 2), (1, 1, 2, 2), (1, 1, 2, 2), 2))
        self.assertEqual(coarser(coarser(sheet, 1), 1), (0, 1))
        self.assertEqual(coarser(sheet, 2), (0, 2))

    def test_some_thousand_leaves_in_a_short_time(self):
        for number in [0, 1, 30, 34, 35, 40]:
            answer_in_short(self, coarser, chequered(40, 6, 1, 2), number)

    def test_refusals(self):
        for sheet in [(0, 0), (1, FOUR), (3, 5), spot(20, LONG[:20], 1, 0), (40, 3), spot(40, LONG, 1, 0)]:
            for thing in NO_NUMBERS + [sheet[0] + 1, sheet[0] + 2]:
                assert_refused(self, NoLevel, coarser, sheet, thing)
