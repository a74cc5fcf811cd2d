import unittest

from quartersheet.leaves import leaves
from quartersheet.mixing import mapped, mixed
from quartersheet.rowwise import row_mapped, row_mixed, row_turned
from quartersheet.turning import turned_left
from tests.helper import (
    answer_of, assert_own_list, chequered, leaves_from, pairs_of_small_sheets, picture_of, sheet_from, small_sheets,
    spot,
)

LONG = "0123" * 10
FOUR = [("0", 1), ("1", 2), ("2", 3), ("3", 4)]
MAPS = [{}, {0: 0}, {7: 8}, {0: 1}, {0: 1, 1: 0}, {0: 2, 1: 2}, {0: 35, 1: 35, 2: 35}]
TABLES = [
    {}, {(0, 1): 1}, {(0, 1): 2, (1, 0): 1}, {(0, 0): 7, (1, 1): 7, (2, 2): 7}, {(34, 34): 1},
    {(a, b): 9 for a in range(36) for b in range(36)}, {(a, b): (a + b) % 2 for a in range(3) for b in range(3)},
]
GREAT = [(40, 3), (40, (0, 1, 2, 3)), spot(40, LONG, 1, 0), spot(40, "3" * 40, 1, 0), spot(40, "0" * 40, 0, 1),
         chequered(40, 6, 1, 2), chequered(40, 6, 0, 1)]


class RowMapped(unittest.TestCase):
    def test_ordinary(self):
        self.assertEqual(row_mapped([("", 3)], {3: 4}), [("", 4)])
        self.assertEqual(row_mapped([("", 3)], {4: 3}), [("", 3)])
        self.assertEqual(row_mapped(FOUR, {1: 2, 2: 1}), [("0", 2), ("1", 1), ("2", 3), ("3", 4)])
        self.assertEqual(row_mapped(FOUR, {1: 4, 2: 4, 3: 4}), [("", 4)])

    def test_several_deep(self):
        row = FOUR[:3] + [("30", 4), ("31", 4), ("320", 5), ("321", 5), ("322", 5), ("323", 6), ("33", 4)]
        self.assertEqual(row_mapped(row, {6: 5}), FOUR[:3] + [("30", 4), ("31", 4), ("32", 5), ("33", 4)])
        self.assertEqual(row_mapped(row, {6: 4, 5: 4}), FOUR)
        self.assertEqual(row_mapped(row, {6: 0, 5: 0, 4: 0, 3: 0, 2: 0, 1: 0}), [("", 0)])
        self.assertEqual(row_mapped(leaves(spot(40, LONG, 1, 0)), {1: 0}), [("", 0)])

    def test_by_places(self):
        for sheet in small_sheets():
            for turned in MAPS:
                picture = {place: turned.get(colour, colour) for place, colour in picture_of(sheet).items()}
                expected = leaves_from(sheet_from(sheet[0], picture))
                self.assertEqual(answer_of(self, row_mapped, leaves(sheet), turned), expected)

    def test_as_the_sheet_is_mapped(self):
        for sheet in small_sheets() + GREAT:
            for turned in MAPS:
                self.assertEqual(row_mapped(leaves(sheet), turned), leaves(mapped(sheet, turned)))

    def test_the_list_is_the_askers_own(self):
        for row in [[("", 0)], FOUR, leaves(spot(40, LONG, 1, 0))]:
            for turned in MAPS:
                assert_own_list(self, row_mapped, row, turned)


class RowMixed(unittest.TestCase):
    def test_ordinary(self):
        self.assertEqual(row_mixed([("", 3)], [("", 4)], {}), [("", 3)])
        self.assertEqual(row_mixed([("", 3)], [("", 4)], {(3, 4): 5}), [("", 5)])
        self.assertEqual(row_mixed([("", 3)], [("", 4)], {(4, 3): 5}), [("", 3)])
        self.assertEqual(row_mixed(FOUR, [("", 4)], {(2, 4): 9}), [("0", 1), ("1", 9), ("2", 3), ("3", 4)])
        self.assertEqual(row_mixed([("", 4)], FOUR, {(4, 2): 9}), [("0", 4), ("1", 9), ("2", 4), ("3", 4)])
        self.assertEqual(row_mixed(FOUR, FOUR, {(1, 1): 3, (2, 2): 3, (4, 4): 3}), [("", 3)])

    def test_unlike_leaves(self):
        row = [("00", 5), ("01", 5), ("02", 6), ("03", 5)] + FOUR[1:]
        other = FOUR[:3] + [("30", 7), ("31", 7), ("320", 8), ("321", 8), ("322", 8), ("323", 7), ("33", 7)]
        self.assertEqual(answer_of(self, row_mixed, row, other, {}), row)
        self.assertEqual(answer_of(self, row_mixed, other, row, {}), other)
        self.assertEqual(row_mixed(row, other, {(6, 1): 5, (4, 7): 0}), [
            ("0", 5), ("1", 2), ("2", 3), ("30", 0), ("31", 0), ("320", 4), ("321", 4), ("322", 4), ("323", 0),
            ("33", 0),
        ])
        self.assertEqual(row_mixed(other, row, {(8, 4): 7, (1, 6): 0}),
                         [("00", 1), ("01", 1), ("02", 0), ("03", 1), ("1", 2), ("2", 3), ("3", 7)])

    def test_by_places(self):
        for one, other in pairs_of_small_sheets(3):
            first, second = picture_of(one), picture_of(other)
            for table in TABLES:
                picture = {at: table.get((first[at], second[at]), first[at]) for at in first}
                expected = leaves_from(sheet_from(one[0], picture))
                self.assertEqual(answer_of(self, row_mixed, leaves(one), leaves(other), table), expected)

    def test_as_sheets_are_mixed(self):
        pairs = pairs_of_small_sheets() + [(one, other) for one in GREAT for other in GREAT]
        for one, other in pairs:
            for table in TABLES[1:4]:
                expected = leaves(mixed(one, other, table))
                self.assertEqual(row_mixed(leaves(one), leaves(other), table), expected)

    def test_the_list_is_the_askers_own(self):
        for row in [[("", 0)], FOUR, leaves(spot(40, LONG, 1, 0))]:
            for other in [[("", 0)], FOUR, row]:
                for table in TABLES:
                    assert_own_list(self, row_mixed, row, other, table)


class RowTurned(unittest.TestCase):
    def test_ordinary(self):
        self.assertEqual(row_turned([("", 3)]), [("", 3)])
        self.assertEqual(row_turned(FOUR), [("0", 2), ("1", 4), ("2", 1), ("3", 3)])
        row = FOUR[:3] + [("30", 5), ("31", 6), ("32", 7), ("33", 8)]
        self.assertEqual(row_turned(row), [("0", 2), ("10", 6), ("11", 8), ("12", 5), ("13", 7), ("2", 1), ("3", 3)])

    def test_by_places(self):
        for sheet in small_sheets():
            last = 2 ** sheet[0] - 1
            picture = {(y, last - x): colour for (x, y), colour in picture_of(sheet).items()}
            expected = leaves_from(sheet_from(sheet[0], picture))
            self.assertEqual(answer_of(self, row_turned, leaves(sheet)), expected)

    def test_as_the_sheet_is_turned(self):
        for sheet in small_sheets() + GREAT:
            self.assertEqual(row_turned(leaves(sheet)), leaves(turned_left(sheet)))

    def test_four_times(self):
        for sheet in small_sheets() + GREAT:
            row = leaves(sheet)
            self.assertEqual(row_turned(row_turned(row_turned(row_turned(row)))), row)

    def test_the_list_is_the_askers_own(self):
        for row in [[("", 0)], FOUR, leaves(spot(40, LONG, 1, 0))]:
            assert_own_list(self, row_turned, row)
