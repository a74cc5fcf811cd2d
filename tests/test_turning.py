import unittest

from quartersheet.sheets import colour_at
from quartersheet.turning import mirrored, swapped, turned_left
from tests.helper import answer_of, chequered, picture_of, sheet_from, small_sheets, spot

LAST = 2 ** 40 - 1
LONG = "0123" * 10
GREAT = [(40, 3), (40, (0, 1, 2, 3)), spot(40, LONG, 1, 0), spot(40, "0" * 40, 1, 0), chequered(40, 6, 1, 2)]
# Where what was at (x, y) comes to.
WAYS = [
    (turned_left, lambda x, y, last: (y, last - x)),
    (mirrored, lambda x, y, last: (last - x, y)),
    (swapped, lambda x, y, last: (y, x)),
]


class Turning(unittest.TestCase):
    def test_four_quarters(self):
        self.assertEqual(turned_left((1, (0, 1, 2, 3))), (1, (1, 3, 0, 2)))
        self.assertEqual(mirrored((1, (0, 1, 2, 3))), (1, (1, 0, 3, 2)))
        self.assertEqual(swapped((1, (0, 1, 2, 3))), (1, (0, 2, 1, 3)))

    def test_plain_sheets(self):
        for deed, way in WAYS:
            for level in [0, 1, 40]:
                for colour in [0, 35]:
                    self.assertEqual(answer_of(self, deed, (level, colour)), (level, colour))

    def test_by_places(self):
        for deed, way in WAYS:
            for sheet in small_sheets():
                last = 2 ** sheet[0] - 1
                picture = {way(x, y, last): colour for (x, y), colour in picture_of(sheet).items()}
                self.assertEqual(answer_of(self, deed, sheet), sheet_from(sheet[0], picture))

    def test_again_and_again(self):
        for sheet in small_sheets() + GREAT:
            self.assertEqual(turned_left(turned_left(turned_left(turned_left(sheet)))), sheet)
            self.assertEqual(mirrored(mirrored(sheet)), sheet)
            self.assertEqual(swapped(swapped(sheet)), sheet)
            self.assertEqual(mirrored(turned_left(sheet)), swapped(turned_left(turned_left(sheet))))

    def test_level_40(self):
        places = [(0, 0), (LAST, 0), (0, LAST), (LAST, LAST), (5, 2 ** 39), (2 ** 39 - 1, 7)]
        places += [(123456789012, 987654321098)]
        for deed, way in WAYS:
            for sheet in GREAT:
                told = deed(sheet)
                for x, y in places:
                    self.assertEqual(colour_at(told, *way(x, y, LAST)), colour_at(sheet, x, y))
        self.assertEqual(turned_left(spot(40, "1" * 40, 1, 0)), spot(40, "0" * 40, 1, 0))
        self.assertEqual(mirrored(spot(40, LONG, 1, 0)), spot(40, "1032" * 10, 1, 0))
        self.assertEqual(swapped(spot(40, LONG, 1, 0)), spot(40, "0213" * 10, 1, 0))
        self.assertEqual(turned_left(spot(40, LONG, 1, 0)), spot(40, "2031" * 10, 1, 0))
