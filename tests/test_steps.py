import unittest

from quartersheet.beyond import touches
from quartersheet.errors import NoPlace
from quartersheet.leaves import leaf_at, leaves
from quartersheet.steps import steps_from, way_between
from tests.helper import (
    answer_in_short, answer_of, assert_needs_a_place, assert_own_list, assert_refused, chequered, drawn, from_rows,
    leaf_by_place, no_places, picture_of, small_sheets, snake, speckled, spot, steps_between_leaves,
)

LONG = "0123" * 10
LAST = 2 ** 40 - 1
FOUR = (0, 1, 2, 3)
# A ring of twelve places round four: each place is a leaf.
RING = from_rows("1111", "1221", "1221", "1111")
# Two ways of unlike lengths lead round the hole, over leaves of unlike widths.
UNLIKE = from_rows(
    "11111111",
    "11111111",
    "11110011",
    "11110011",
    "11110010",
    "11110010",
    "11110110",
    "11111100",
)


def sheets_to_ask():
    more = [drawn(4, seed, 2, 14) for seed in range(30, 34)] + [speckled(3, seed, 2) for seed in range(4)]
    return small_sheets() + more + [RING, UNLIKE]


class StepsFrom(unittest.TestCase):
    def test_plain_sheets(self):
        for level in [0, 1, 3, 40]:
            wide = 2 ** level
            self.assertEqual(answer_of(self, steps_from, (level, 9), wide - 1, wide // 2), [("", 0)])

    def test_a_land_of_one_leaf(self):
        for level in [1, 40]:
            self.assertEqual(steps_from((level, FOUR), 0, 0), [("0", 0)])
            self.assertEqual(steps_from((level, (5, 6, 6, 5)), 0, 0), [("0", 0)])

    def test_two_lands_of_one_colour(self):
        sheet = (2, (5, (6, 5, 6, 5), 6, (5, 5, 6, 6)))
        self.assertEqual(steps_from(sheet, 0, 0), [("0", 0)])
        self.assertEqual(steps_from(sheet, 3, 0), [("11", 0), ("13", 1), ("30", 3), ("31", 2)])

    def test_a_ring_from_both_sides(self):
        self.assertEqual(answer_of(self, steps_from, RING, 0, 0), [
            ("00", 0), ("01", 1), ("02", 1), ("10", 2), ("11", 3), ("13", 4), ("20", 2), ("22", 3), ("23", 4),
            ("31", 5), ("32", 5), ("33", 6),
        ])
        steps = dict(steps_from(RING, 3, 1))
        self.assertEqual([steps["22"], steps["20"], steps["02"]], [5, 6, 5])
        self.assertEqual(steps_from(RING, 1, 2), [("03", 1), ("12", 2), ("21", 0), ("30", 1)])

    def test_ways_of_unlike_lengths(self):
        # The two ways round the hole end at 330: over 10 in six steps, over 2 in five.
        self.assertEqual(steps_from(UNLIKE, 0, 0), [
            ("0", 0), ("10", 1), ("11", 2), ("13", 3), ("2", 1), ("310", 4), ("312", 5), ("321", 4), ("322", 2),
            ("323", 3), ("330", 5),
        ])
        self.assertEqual(dict(steps_from(UNLIKE, 6, 6))["0"], 5)
        self.assertEqual(dict(steps_from(UNLIKE, 6, 6))["10"], 5)

    def test_by_places(self):
        for sheet in sheets_to_ask():
            expected = steps_between_leaves(sheet)
            leaf_of = leaf_by_place(sheet)
            for place in sorted(leaf_of)[::5]:
                told = answer_of(self, steps_from, sheet, *place)
                self.assertEqual(told, sorted(expected[leaf_of[place]].items()))

    def test_each_place_of_a_leaf_tells_the_same(self):
        for x in range(4):
            for y in range(4):
                self.assertEqual(steps_from(UNLIKE, x, y), steps_from(UNLIKE, 0, 0))

    def test_level_40(self):
        sheet = spot(40, "0" * 40, 1, 0)
        self.assertEqual(steps_from(sheet, 0, 0), [("0" * 40, 0)])
        told = steps_from(sheet, LAST, LAST)
        self.assertEqual([code for code, steps in told], [code for code, colour in leaves(sheet)][1:])
        expected = {"3": 0}
        for signs in range(40):
            # Each ring of three lies round the next smaller one; its 3 is come to over its 1 or 2.
            expected.update({"0" * signs + sign: signs + 1 for sign in "12"})
            if signs > 0:
                expected["0" * signs + "3"] = signs + 1
        self.assertEqual(dict(told), expected)

    def test_some_thousand_leaves_in_a_short_time(self):
        for level in [6, 40]:
            told = answer_in_short(self, steps_from, (level, snake()[1]), 0, 0)
            self.assertEqual(sorted(steps for code, steps in told), list(range(2080)))
            self.assertEqual(len(answer_in_short(self, steps_from, chequered(level, 6, 1, 2), 0, 0)), 1)

    def test_the_list_is_the_askers_own(self):
        for sheet, x, y in [((0, 0), 0, 0), (RING, 0, 0), (UNLIKE, 7, 0), (spot(40, LONG, 1, 0), LAST, LAST)]:
            assert_own_list(self, steps_from, sheet, x, y)

    def test_refusals(self):
        assert_needs_a_place(self, steps_from, [(0, 0), (1, FOUR), (3, 5), RING, spot(40, "0" * 40, 1, 0)])


class WayBetween(unittest.TestCase):
    def assert_way(self, sheet, place, to_place):
        way = answer_of(self, way_between, sheet, *place, *to_place)
        steps = dict(steps_from(sheet, *place))
        last = leaf_at(sheet, *to_place)
        if last not in steps:
            self.assertIsNone(way)
            return
        self.assertIs(type(way), list)
        self.assertEqual((way[0], way[-1]), (leaf_at(sheet, *place), last))
        self.assertEqual(len(way), steps[last] + 1)
        near = touches(sheet)
        for code, other in zip(way, way[1:]):
            self.assertIn((min(code, other), max(code, other)), near)
        self.assertEqual(len({dict(leaves(sheet))[code] for code in way}), 1)

    def test_a_place_and_itself(self):
        for sheet in small_sheets(2):
            for place in picture_of(sheet):
                self.assertEqual(answer_of(self, way_between, sheet, *place, *place), [leaf_at(sheet, *place)])
        self.assertEqual(way_between(spot(40, LONG, 1, 0), LAST, LAST, LAST, LAST), ["3"])

    def test_two_places_of_one_leaf(self):
        self.assertEqual(way_between((3, 5), 0, 0, 7, 7), [""])
        self.assertEqual(way_between(UNLIKE, 0, 0, 3, 3), ["0"])
        self.assertEqual(way_between((40, FOUR), LAST, 0, 2 ** 39, 5), ["1"])

    def test_two_lands(self):
        for level in [1, 40]:
            last = 2 ** level - 1
            self.assertIsNone(answer_of(self, way_between, (level, FOUR), 0, 0, last, 0))
            self.assertIsNone(answer_of(self, way_between, (level, (5, 6, 6, 5)), 0, 0, last, last))
            self.assertIsNone(answer_of(self, way_between, (level, (5, 6, 6, 5)), last, 0, 0, last))
        self.assertIsNone(way_between(RING, 0, 0, 1, 1))
        self.assertIsNone(way_between(snake(), 0, 1, 1, 3))

    def test_one_way_alone(self):
        self.assertEqual(way_between((2, (5, (6, 5, 6, 5), 6, (5, 5, 6, 6))), 3, 0, 2, 2), ["11", "13", "31", "30"])
        self.assertEqual(way_between((2, (5, (6, 5, 6, 5), 6, (5, 5, 6, 6))), 2, 2, 3, 0), ["30", "31", "13", "11"])
        self.assertEqual(way_between((1, (5, 5, 6, 5)), 0, 0, 1, 1), ["0", "1", "3"])
        self.assertEqual(way_between((40, (5, 5, 6, 5)), 0, 0, LAST, LAST), ["0", "1", "3"])

    def test_by_places(self):
        for sheet in sheets_to_ask():
            places = sorted(picture_of(sheet))
            for place in places[::13]:
                for to_place in places[::17] + places[-1:]:
                    self.assert_way(sheet, place, to_place)

    def test_each_two_places_of_a_ring(self):
        for place in picture_of(RING):
            for to_place in picture_of(RING):
                self.assert_way(RING, place, to_place)

    def test_level_40(self):
        sheet = spot(40, "0" * 40, 1, 0)
        for place in [(LAST, LAST), (LAST, 0), (1, 0), (0, 1), (1, 1), (2 ** 20, 17)]:
            for to_place in [(LAST, LAST), (1, 1), (0, 1), (0, LAST), (0, 0)]:
                self.assert_way(sheet, place, to_place)
        self.assertEqual(len(way_between(sheet, LAST, LAST, 1, 1)), 41)

    def test_some_thousand_leaves_in_a_short_time(self):
        way = answer_in_short(self, way_between, snake(), 0, 0, 0, 63)
        self.assertEqual(way[:3], ["000000", "000001", "000010"])
        self.assertEqual(len(way), 2080)
        self.assertEqual(answer_in_short(self, way_between, (40, snake()[1]), 0, LAST, 0, 0), way[::-1])

    def test_the_list_is_the_askers_own(self):
        for sheet, place, to_place in [((0, 0), (0, 0), (0, 0)), (RING, (0, 0), (3, 3)), (UNLIKE, (7, 0), (0, 0))]:
            assert_own_list(self, way_between, sheet, *place, *to_place)

    def test_refusals(self):
        for sheet in [(0, 0), (1, FOUR), (3, 5), RING, spot(40, "0" * 40, 1, 0)]:
            for thing in no_places(sheet[0]):
                for at in range(4):
                    given = [0, 0, 0, 0]
                    given[at] = thing
                    assert_refused(self, NoPlace, way_between, sheet, *given)
                assert_refused(self, NoPlace, way_between, sheet, thing, thing, thing, thing)
