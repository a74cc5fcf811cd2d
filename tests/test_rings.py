import unittest

from quartersheet.cutting import laid
from quartersheet.lands import lands, rim
from quartersheet.leaves import areas, leaves, sheet_of
from quartersheet.painting import painted
from quartersheet.rings import rings
from quartersheet.turning import mirrored, swapped, turned_left
from tests.helper import (
    WITHIN, answer_in_short, answer_of, assert_needs_a_place, assert_own_list, by_rows, chequered, drawn, from_rows,
    land_with, picture_of, place_of, places_of, rim_from, rings_from, sheet_from, small_sheets, snake, speckled, spot,
)

LONG = "0123" * 10
WIDE = 2 ** 40
LAST = WIDE - 1
HALF = 2 ** 39
FOUR = (0, 1, 2, 3)


def sheets_to_ask():
    more = [drawn(4, seed, 2, 14) for seed in range(40, 44)]
    return small_sheets(3) + more + [speckled(level, seed) for level in (2, 3, 4) for seed in range(5)] + [WITHIN]


def box(x, y, wide, high):
    # Round a land, with it at the right hand.
    return [(x, y), (x + wide, y), (x + wide, y + high), (x, y + high)]


def hole(x, y, wide, high):
    return [(x, y), (x, y + high), (x + wide, y + high), (x + wide, y)]


def sides_of(ring):
    return list(zip(ring, ring[1:] + ring[:1]))


class Rings(unittest.TestCase):
    def test_one_place(self):
        self.assertEqual(answer_of(self, rings, (0, 35), 0, 0), [[(0, 0), (1, 0), (1, 1), (0, 1)]])
        self.assertEqual(answer_of(self, rings, spot(2, "12", 1, 0), 2, 1), [box(2, 1, 1, 1)])

    def test_plain_sheets(self):
        for level in [0, 1, 3, 40]:
            wide = 2 ** level
            self.assertEqual(answer_of(self, rings, (level, 9), wide - 1, wide // 2), [box(0, 0, wide, wide)])

    def test_only_points_where_the_way_changes(self):
        self.assertEqual(rings((1, (5, 5, 6, 7)), 0, 0), [box(0, 0, 2, 1)])
        self.assertEqual(rings((1, (5, 6, 5, 7)), 0, 0), [box(0, 0, 1, 2)])
        self.assertEqual(rings((1, (5, 6, 5, 5)), 0, 0), [[(0, 0), (1, 0), (1, 1), (2, 1), (2, 2), (0, 2)]])
        # Leaves of unlike widths along one side.
        sheet = from_rows("1110", "1110", "1110", "1110")
        self.assertEqual(rings(sheet, 0, 0), [box(0, 0, 3, 4)])
        self.assertEqual(rings(sheet, 3, 2), [box(3, 0, 1, 4)])

    def test_the_first_point(self):
        # The uppermost one, of several the leftmost, which need not lie at the left end.
        sheet = from_rows("0010", "1111", "0101", "0000")
        self.assertEqual(rings(sheet, 0, 1), [[
            (2, 0), (3, 0), (3, 1), (4, 1), (4, 3), (3, 3), (3, 2), (2, 2), (2, 3), (1, 3), (1, 2), (0, 2), (0, 1),
            (2, 1),
        ]])
        sheet = from_rows("1010", "1110", "0000", "0000")
        self.assertEqual(rings(sheet, 2, 0), [[(0, 0), (1, 0), (1, 1), (2, 1), (2, 0), (3, 0), (3, 2), (0, 2)]])

    def test_holes(self):
        sheet = from_rows("1111", "1011", "1101", "1111")
        self.assertEqual(rings(sheet, 0, 0), [
            box(0, 0, 4, 4), [(1, 1), (1, 2), (2, 2), (2, 3), (3, 3), (3, 2), (2, 2), (2, 1)],
        ])
        sheet = from_rows(
            "11111111", "11110111", "10111111", "11111111", "11111101", "10011111", "10011111", "11111111",
        )
        self.assertEqual(rings(sheet, 0, 0), [
            box(0, 0, 8, 8), hole(4, 1, 1, 1), hole(1, 2, 1, 1), hole(6, 4, 1, 1), hole(1, 5, 2, 2),
        ])

    def test_holes_within_which_the_colour_stands_again(self):
        self.assertEqual(rings(WITHIN, 0, 0), [box(0, 0, 8, 8), hole(1, 1, 6, 6)])
        self.assertEqual(rings(WITHIN, 1, 1), [box(1, 1, 6, 6), hole(2, 2, 4, 4)])
        self.assertEqual(rings(WITHIN, 2, 2), [box(2, 2, 4, 4), hole(3, 3, 2, 2)])
        self.assertEqual(rings(WITHIN, 3, 4), [box(3, 3, 2, 2)])

    def test_two_rings_beside_one_another_are_in_order_by_rows(self):
        sheet = from_rows("1111", "1101", "1111", "1111")
        self.assertEqual(rings(sheet, 0, 0), [box(0, 0, 4, 4), hole(2, 1, 1, 1)])
        sheet = from_rows(
            "11111111", "10101011", "11111111", "11111111", "11111111", "01111111", "11111111", "11111111",
        )
        self.assertEqual([ring[0] for ring in rings(sheet, 7, 7)], [(0, 0), (1, 1), (3, 1), (5, 1)])

    def test_a_land_that_meets_itself_in_a_corner(self):
        # From outside: what is round it and what it goes round are one ring, which comes twice to (2, 1).
        sheet = from_rows("1100", "1010", "1110", "0000")
        self.assertEqual(rings(sheet, 0, 0), [[
            (0, 0), (2, 0), (2, 1), (1, 1), (1, 2), (2, 2), (2, 1), (3, 1), (3, 3), (0, 3),
        ]])
        # From inside: two holes that meet in a corner are one ring, as the land is round each place by itself there.
        sheet = from_rows("1111", "1101", "1011", "1111")
        self.assertEqual(rings(sheet, 0, 0), [
            box(0, 0, 4, 4), [(2, 1), (2, 2), (1, 2), (1, 3), (2, 3), (2, 2), (3, 2), (3, 1)],
        ])
        self.assertEqual(rings(sheet, 2, 1), [box(2, 1, 1, 1)])

    def test_chequered_sheets(self):
        for level in [1, 2, 3]:
            for x, y in places_of("", level):
                self.assertEqual(rings(chequered(level, level, 1, 2), x, y), [box(x, y, 1, 1)])
        self.assertEqual(rings(chequered(40, 6, 1, 2), 0, LAST), [box(0, WIDE - 2 ** 34, 2 ** 34, 2 ** 34)])

    def test_by_places(self):
        for sheet in sheets_to_ask():
            picture = picture_of(sheet)
            left = set(picture)
            while left:
                place = min(left)
                self.assertEqual(answer_of(self, rings, sheet, *place), rings_from(picture, place))
                left -= land_with(picture, place)

    def test_every_picture_of_two_colours_at_level_1_and_many_at_level_2(self):
        for level, step in [(1, 1), (2, 97)]:
            places = places_of("", level)
            for number in range(0, 2 ** len(places), step):
                picture = {place: number >> at & 1 for at, place in enumerate(places)}
                sheet = sheet_from(level, picture)
                for place in places[::3]:
                    self.assertEqual(rings(sheet, *place), rings_from(picture, place))

    def test_each_place_of_a_land_tells_the_same(self):
        for sheet in [WITHIN, speckled(3, 1)]:
            picture = picture_of(sheet)
            for place in picture:
                self.assertEqual(rings(sheet, *place), rings(sheet, *min(land_with(picture, place))))

    def assert_sums(self, told, places, length):
        sides = [side for ring in told for side in sides_of(ring)]
        self.assertEqual(sum(one[0] * two[1] - two[0] * one[1] for one, two in sides), 2 * places)
        self.assertEqual(sum(abs(two[0] - one[0]) + abs(two[1] - one[1]) for one, two in sides), length)
        for ring in told:
            # Across and down by turns: each point is one at which the way changes.
            across = [one[1] == two[1] for one, two in sides_of(ring)]
            self.assertTrue(all(across[at] != across[at - 1] for at in range(len(ring))))
            self.assertTrue(all((one[0] == two[0]) != (one[1] == two[1]) for one, two in sides_of(ring)))
            self.assertEqual(by_rows(ring[0]), min(by_rows(point) for point in ring))
        firsts = [by_rows(ring[0]) for ring in told]
        self.assertEqual(firsts, sorted(set(firsts)))

    def test_the_sums(self):
        for sheet in sheets_to_ask():
            picture = picture_of(sheet)
            for place in sorted(picture)[::7]:
                told = rings(sheet, *place)
                self.assert_sums(told, len(land_with(picture, place)), rim_from(picture, place))

    def test_the_sums_at_level_40(self):
        deep = (40, (FOUR, (1, 0, 0, (1, 1, (0, 1, 1, 2), 0)), spot(39, LONG[:39], 1, 0)[1], (1, 2, FOUR, 0)))
        for sheet in [spot(40, LONG, 1, 0), spot(40, "3" * 40, 1, 0), spot(40, "03" * 20, 1, 0), deep]:
            for colour, members in lands(sheet):
                places = sum(4 ** (40 - len(code)) for code, other in members)
                x, y = place_of(members[0][0].ljust(40, "0"))
                self.assert_sums(rings(sheet, x, y), places, rim(sheet, x, y))

    def test_the_same_picture_from_other_leaves(self):
        for seed in range(4):
            for sheet in [speckled(3, seed), drawn(3, seed, 2, 12)]:
                ground = (5, 9)
                for x, y in [(0, 0), (1, 1), (3, 2), (8, 8), (11, 13), (24, 24)]:
                    moved = laid(sheet, x, y, ground)
                    for place in sorted(picture_of(sheet))[::11]:
                        expected = [[(i + x, j + y) for i, j in ring] for ring in rings(sheet, *place)]
                        self.assertEqual(rings(moved, place[0] + x, place[1] + y), expected)

    def test_the_same_sheet_made_in_other_ways(self):
        sheet = painted(painted((2, 0), "1", 5), "21", 5)
        other = sheet_of(2, leaves(sheet)[::-1])
        again = turned_left(turned_left(turned_left(turned_left(swapped(swapped(mirrored(mirrored(other))))))))
        for x, y in places_of("", 2):
            self.assertEqual(rings(sheet, x, y), rings(other, x, y))
            self.assertEqual(rings(sheet, x, y), rings(again, x, y))

    def test_level_40(self):
        self.assertEqual(rings((40, FOUR), LAST, 0), [box(HALF, 0, HALF, HALF)])
        self.assertEqual(rings((40, (5, 5, 6, 6)), LAST, 0), [box(0, 0, WIDE, HALF)])
        sheet = spot(40, "0" + "3" * 39, 1, 0)
        self.assertEqual(rings(sheet, 0, 0), [box(0, 0, WIDE, WIDE), hole(HALF - 1, HALF - 1, 1, 1)])
        self.assertEqual(rings(sheet, HALF - 1, HALF - 1), [box(HALF - 1, HALF - 1, 1, 1)])
        # A spot at the sheet's end makes a dent, no hole.
        self.assertEqual(rings(spot(40, "3" * 40, 1, 0), 0, 0), [
            [(0, 0), (WIDE, 0), (WIDE, LAST), (LAST, LAST), (LAST, WIDE), (0, WIDE)],
        ])
        self.assertEqual(rings(spot(40, "0" * 40, 1, 0), LAST, 0), [
            [(1, 0), (WIDE, 0), (WIDE, WIDE), (0, WIDE), (0, 1), (1, 1)],
        ])
        fine = (40, ((0, 0, 0, 1), (0, 0, 1, 0), (0, 1, 0, 0), (1, 0, 0, 0)))
        self.assertEqual(rings(fine, 0, 0), [box(0, 0, WIDE, WIDE), hole(HALF // 2, HALF // 2, HALF, HALF)])

    def test_some_thousand_leaves_in_a_short_time(self):
        small = answer_in_short(self, rings, snake(), 0, 0)
        self.assertEqual(len(small), 1)
        self.assert_sums(small, 2080, 2 * 2080 + 2)
        wide = 2 ** 34
        large = answer_in_short(self, rings, (40, snake()[1]), 0, 0)
        self.assertEqual(large, [[(x * wide, y * wide) for x, y in ring] for ring in small])
        for level in [6, 40]:
            self.assertEqual(len(answer_in_short(self, rings, holed(level), 0, 0)), 1 + 31 * 31)
            self.assertEqual(dict(areas(holed(level)))[1], 1024 * 4 ** (level - 6))

    def test_the_lists_are_the_askers_own(self):
        for sheet, x, y in [((0, 0), 0, 0), (WITHIN, 0, 0), (spot(40, LONG, 1, 0), LAST, LAST)]:
            assert_own_list(self, rings, sheet, x, y)

    def test_refusals(self):
        assert_needs_a_place(self, rings, [(0, 0), (1, FOUR), (3, 5), WITHIN, spot(40, "0" * 40, 1, 0)])


def holed(level):
    # A ground of 3072 leaves; of the other 1024 all are holes in it but those at the right and the lower end.
    tree = (0, 0, 0, 1)
    for step in range(5):
        tree = (tree, tree, tree, tree)
    return (level, tree)
