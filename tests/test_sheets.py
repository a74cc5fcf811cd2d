import copy
import unittest

from quartersheet.errors import NoColour, NoLevel, NoPlace
from quartersheet.sheets import colour_at, is_sheet, joined, plain, quarters
from tests.helper import (
    NO_CODES, NO_COLOURS, NO_LEVELS, ODD, TEXTS, WHOLES, answer_of, assert_refused, chequered, nested, no_places,
    picture_of, places_of, sheet_from, small_sheets, spot,
)

LAST = 2 ** 40 - 1


def nested_in_fours(inmost, depth):
    thing = inmost
    for step in range(depth):
        thing = (thing, 0, 1, 2)
    return thing


class IsSheet(unittest.TestCase):
    def asked(self, thing, expected):
        before = copy.deepcopy(thing)
        self.assertIs(is_sheet(thing), expected, thing)
        self.assertEqual(thing, before)

    def all_asked(self, things, expected):
        for thing in things:
            self.asked(thing, expected)

    def test_plain_sheets(self):
        self.all_asked([(level, colour) for level in range(41) for colour in (0, 1, 34, 35)], True)

    def test_parted_sheets(self):
        self.all_asked([
            (1, (0, 1, 2, 3)), (1, (0, 0, 0, 1)), (1, (1, 0, 0, 0)), (1, (35, 35, 0, 35)), (1, (0, 0, 1, 1)),
            (3, (0, 1, 2, 3)), (3, (0, (0, 0, 0, (0, 1, 0, 0)), 0, 0)),
            (3, ((0, 1, 1, 1), (0, 1, 1, 1), (0, 1, 1, 1), (0, 1, 1, 1))),
            (3, (0, 0, 0, (0, 0, 0, 1))), (3, ((5, 5, 5, 6), 5, 5, 5)),
            (40, (0, 1, 2, 3)), (40, nested_in_fours(0, 40)), (40, nested_in_fours(35, 39)),
            spot(40, "0123" * 10, 1, 0), chequered(40, 5, 7, 8),
        ], True)

    def test_sheets_made_place_by_place(self):
        self.all_asked(small_sheets(3), True)

    def test_four_equal_colours(self):
        self.all_asked([
            (1, (0, 0, 0, 0)), (40, (35, 35, 35, 35)), (2, (0, (1, 1, 1, 1), 0, 0)), (2, ((0, 0, 0, 0), 0, 0, 0)),
            (3, (0, 1, 2, (0, 1, 2, (3, 3, 3, 3)))), (2, ((0, 0, 0, 0), (0, 0, 0, 0), (0, 0, 0, 0), (0, 0, 0, 0))),
            (40, nested_in_fours((4, 4, 4, 4), 39)), (2, ((0, 0, 0, 0), (1, 1, 1, 1), 2, 3)),
        ], False)

    def test_four_below_one_place(self):
        self.all_asked([
            (0, (0, 1, 2, 3)), (0, (0, 0, 0, 0)), (1, ((0, 1, 2, 3), 0, 0, 0)), (1, (0, 0, 0, (0, 0, 0, 1))),
            (3, (0, 0, 0, (0, 0, 0, (0, 0, 0, (0, 0, 0, 1))))), (40, nested_in_fours(0, 41)),
            (40, nested_in_fours(0, 58)),
        ], False)

    def test_other_numbers_of_parts(self):
        for parts in [(), (0,), (0, 1), (0, 1, 2), (0, 1, 2, 3, 4), (0, 1, 2, 3, 0), (0,) * 8, tuple(range(16))]:
            self.all_asked([(3, parts), (3, (0, 1, 2, parts)), (3, (0, 1, (parts, 0, 0, 0), 2))], False)

    def test_lists_in_the_place_of_tuples(self):
        self.all_asked([
            [3, 0], [1, (0, 1, 2, 3)], (1, [0, 1, 2, 3]), (3, (0, 1, [0, 1, 2, 3], 0)), [[1, 0]],
            (3, (0, 1, (0, 1, 2, [0, 1, 2, 3]), 0)), (40, nested_in_fours([0, 1, 2, 3], 39)), (1, [0]), ([1], 0),
        ], False)

    def test_no_colours(self):
        for thing in NO_COLOURS:
            self.all_asked([(0, thing), (3, thing), (1, (thing, 0, 1, 2)), (3, (0, (0, 1, 2, thing), 0, 0))], False)
            self.asked((1, (thing, thing, thing, 0)), False)

    def test_truths_that_equal_colours(self):
        self.all_asked([
            (1, (0, 0, 0, True)), (1, (True, 0, 0, 0)), (1, (1, 1, 1, True)), (1, (False, 0, 0, 0)),
            (1, (True, True, True, True)), (2, (0, 1, 2, (False, 1, 2, 3))),
            (True, 0), (False, 0), (True, (0, 1, 2, 3)),
        ], False)

    def test_no_levels(self):
        for thing in NO_LEVELS:
            self.all_asked([(thing, 0), (thing, (0, 1, 2, 3)), (thing, (0, 0, 0, (0, 1, 2, 3)))], False)

    def test_parts_at_the_top(self):
        self.all_asked([
            (), (3,), (0,), (3, 0, 0), (3, (0, 1, 2, 3), 0), (1, 0, 1, 2, 3), ((3, 0),), (0, 1, 2, 3),
        ], False)

    def test_things_of_every_kind(self):
        self.all_asked(ODD + TEXTS + WHOLES + NO_CODES, False)
        self.all_asked([{3: 0}, {"level": 3, "tree": 0}, {0: 0, 1: 0}, "30", "3:0", ("3", "0"), (None, None)], False)

    def test_nested_60_deep(self):
        self.all_asked([
            nested(0, 60), nested((3, 0), 59), (3, nested(0, 59)), (nested(3, 59), 0), (40, nested((0, 1, 2, 3), 58)),
            (40, nested_in_fours(nested(0, 19), 40)), (40, nested_in_fours(0, 59)), nested_in_fours(0, 60),
            (40, tuple(range(4990))), tuple(range(4999)), (40, (nested(None, 30), 0, 1, nested("0", 50))),
        ], False)

    def test_thousands_of_parts(self):
        self.asked(chequered(6, 6, 0, 35), True)
        self.asked(chequered(40, 6, 0, 35), True)
        self.asked((40, (chequered(5, 5, 0, 1)[1], 0, 1, chequered(5, 5, 2, 2)[1])), False)


class Plain(unittest.TestCase):
    def test_levels_and_colours(self):
        for level in [0, 1, 3, 39, 40]:
            for colour in [0, 1, 35]:
                self.assertEqual(plain(level, colour), (level, colour))
        self.assertEqual([type(part) for part in plain(40, 35)], [int, int])

    def test_refusals(self):
        for thing in NO_LEVELS:
            assert_refused(self, NoLevel, plain, thing, 0)
        for thing in NO_COLOURS:
            assert_refused(self, NoColour, plain, 0, thing)
            assert_refused(self, NoColour, plain, 40, thing)

    def test_of_two_refusals_the_level_comes_first(self):
        for level in NO_LEVELS:
            for colour in NO_COLOURS:
                assert_refused(self, NoLevel, plain, level, colour)


class JoinedAndQuarters(unittest.TestCase):
    def there_and_back(self, parts, whole):
        self.assertEqual(answer_of(self, joined, *parts), whole)
        self.assertEqual(answer_of(self, quarters, whole), tuple(parts))

    def test_of_one_colour(self):
        for level in [0, 1, 39]:
            for colour in [0, 35]:
                self.there_and_back([(level, colour)] * 4, (level + 1, colour))

    def test_of_several_colours(self):
        for level in [0, 1, 39]:
            for colours in [(0, 1, 2, 3), (0, 0, 0, 1), (1, 0, 0, 0), (5, 5, 6, 5), (5, 6, 5, 5), (0, 0, 35, 35)]:
                self.there_and_back([(level, colour) for colour in colours], (level + 1, colours))

    def test_of_parted_sheets(self):
        four = (0, 1, 2, 3)
        self.there_and_back([(1, four), (1, 0), (1, 0), (1, 0)], (2, (four, 0, 0, 0)))
        self.there_and_back([(1, 0), (1, 0), (1, 0), (1, four)], (2, (0, 0, 0, four)))
        self.there_and_back([(1, four)] * 4, (2, (four, four, four, four)))
        deep = spot(39, "0123" * 9 + "012", 1, 0)
        self.there_and_back([(39, 0), deep, deep, (39, 0)], (40, (0, deep[1], deep[1], 0)))
        self.there_and_back([deep, (39, 0), (39, 0), (39, 0)], spot(40, "0" + "0123" * 9 + "012", 1, 0))

    def test_the_other_way_round(self):
        for sheet in small_sheets() + [(40, 7), chequered(40, 6, 1, 2), spot(40, "3" * 40, 1, 0)]:
            if sheet[0] > 0:
                self.assertEqual(joined(*answer_of(self, quarters, sheet)), sheet)

    def test_by_places(self):
        for level in range(4):
            sheets = [sheet for sheet in small_sheets(3) if sheet[0] == level]
            wide = 2 ** level
            for at in range(len(sheets)):
                parts = [sheets[at], sheets[at - 1], sheets[at - 2], sheets[at - 3]]
                picture = {}
                for part, (right, down) in zip(parts, [(0, 0), (wide, 0), (0, wide), (wide, wide)]):
                    picture.update({(x + right, y + down): colour for (x, y), colour in picture_of(part).items()})
                self.there_and_back(parts, sheet_from(level + 1, picture))

    def test_kinds_of_the_answers(self):
        answer = quarters((40, 3))
        self.assertIs(type(answer), tuple)
        self.assertEqual(answer, ((39, 3), (39, 3), (39, 3), (39, 3)))
        self.assertTrue(all(is_sheet(sheet) for sheet in quarters((1, (0, 1, 2, 3)))))

    def test_joined_refuses_sheets_of_several_levels(self):
        for at in range(4):
            for level, other in [(0, 1), (3, 2), (39, 40), (40, 39), (39, 0)]:
                sheets = [(level, 0)] * 4
                sheets[at] = (other, 0)
                assert_refused(self, NoLevel, joined, *sheets)
        assert_refused(self, NoLevel, joined, (0, 0), (1, 0), (2, 0), (3, 0))
        assert_refused(self, NoLevel, joined, (1, 0), (1, 0), (2, 0), (2, 0))
        assert_refused(self, NoLevel, joined, (1, (0, 1, 2, 3)), (2, (0, 1, 2, 3)), (1, 0), (1, 0))

    def test_joined_refuses_level_40(self):
        assert_refused(self, NoLevel, joined, (40, 0), (40, 0), (40, 0), (40, 0))
        assert_refused(self, NoLevel, joined, (40, 0), (40, 1), (40, (0, 1, 2, 3)), (40, 3))

    def test_quarters_refuses_level_0(self):
        for colour in [0, 35]:
            assert_refused(self, NoLevel, quarters, (0, colour))


class ColourAt(unittest.TestCase):
    def test_by_places(self):
        for sheet in small_sheets():
            picture = picture_of(sheet)
            for x, y in places_of("", sheet[0]):
                self.assertEqual(colour_at(sheet, x, y), picture[(x, y)])

    def test_quarters_in_their_order(self):
        sheet = (1, (4, 5, 6, 7))
        self.assertEqual([colour_at(sheet, x, y) for x, y in [(0, 0), (1, 0), (0, 1), (1, 1)]], [4, 5, 6, 7])

    def test_level_40(self):
        self.assertEqual(colour_at((40, 9), LAST, 0), 9)
        corners = [(0, 0), (LAST, 0), (0, LAST), (LAST, LAST)]
        self.assertEqual([colour_at((40, (4, 5, 6, 7)), x, y) for x, y in corners], [4, 5, 6, 7])
        sheet = spot(40, "3" * 40, 1, 0)
        self.assertEqual(colour_at(sheet, LAST, LAST), 1)
        for x, y in [(LAST - 1, LAST), (LAST, LAST - 1), (0, 0), (LAST, 0), (0, LAST)]:
            self.assertEqual(colour_at(sheet, x, y), 0)

    def test_refusals(self):
        for sheet in [(0, 0), (1, (0, 1, 2, 3)), (3, 5), spot(40, "0" * 40, 1, 0)]:
            for thing in no_places(sheet[0]):
                assert_refused(self, NoPlace, colour_at, sheet, thing, 0)
                assert_refused(self, NoPlace, colour_at, sheet, 0, thing)
                assert_refused(self, NoPlace, colour_at, sheet, thing, thing)
