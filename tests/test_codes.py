import unittest

from quartersheet.codes import beside, code_at, code_of, common, corner, holds, numbered
from quartersheet.errors import NoCode, NoLevel, NoPlace, NoSide
from tests.helper import (
    NO_CODES, NO_LEVELS, NO_SIDES, ODD, SIDES, TEXTS, THIRTY, assert_refused, codes_of_length, codes_up_to, places_of,
)

LAST = 2 ** 40 - 1
HALF = 2 ** 39
GOES = {"up": (0, -1), "right": (1, 0), "down": (0, 1), "left": (-1, 0)}
BACK = {"up": "down", "right": "left", "down": "up", "left": "right"}
LONG = "0123" * 10


class Corner(unittest.TestCase):
    def test_level_0(self):
        self.assertEqual(corner("", 0), (0, 0, 1))

    def test_level_1(self):
        self.assertEqual(corner("", 1), (0, 0, 2))
        self.assertEqual([corner(code, 1) for code in "0123"], [(0, 0, 1), (1, 0, 1), (0, 1, 1), (1, 1, 1)])

    def test_level_2(self):
        self.assertEqual(corner("", 2), (0, 0, 4))
        self.assertEqual([corner(code, 2) for code in "0123"], [(0, 0, 2), (2, 0, 2), (0, 2, 2), (2, 2, 2)])
        self.assertEqual([corner(code, 2) for code in ["12", "21", "30", "33"]],
                         [(2, 1, 1), (1, 2, 1), (2, 2, 1), (3, 3, 1)])

    def test_level_40(self):
        self.assertEqual(corner("", 40), (0, 0, 2 ** 40))
        self.assertEqual(corner("1", 40), (HALF, 0, HALF))
        self.assertEqual(corner("2", 40), (0, HALF, HALF))
        self.assertEqual(corner("32", 40), (HALF, HALF + HALF // 2, HALF // 2))
        self.assertEqual([corner(sign * 40, 40) for sign in "0123"],
                         [(0, 0, 1), (LAST, 0, 1), (0, LAST, 1), (LAST, LAST, 1)])
        self.assertEqual(corner("3" * 39, 40), (LAST - 1, LAST - 1, 2))

    def test_squares_hold_the_places_of_their_quarters(self):
        for code in codes_up_to(3):
            places = places_of(code, 3)
            self.assertEqual(corner(code, 3), (*min(places), 2 ** (3 - len(code))))

    def test_kinds_of_the_answer(self):
        answer = corner("12", 5)
        self.assertIs(type(answer), tuple)
        self.assertEqual([type(part) for part in answer], [int, int, int])

    def test_refusals(self):
        for thing in NO_CODES:
            assert_refused(self, NoCode, corner, thing, 40)
        for thing in NO_LEVELS:
            assert_refused(self, NoLevel, corner, "", thing)
            assert_refused(self, NoLevel, corner, "012", thing)
        for code, level in [("0", 0), ("012", 2), ("0" * 40, 39), ("3" * 40, 0)]:
            assert_refused(self, NoLevel, corner, code, level)

    def test_of_two_refusals_the_code_comes_first(self):
        for thing in NO_CODES:
            for level in NO_LEVELS:
                assert_refused(self, NoCode, corner, thing, level)
        assert_refused(self, NoCode, corner, "0124", 2)


class CodeAt(unittest.TestCase):
    def test_small_levels(self):
        self.assertEqual(code_at(0, 0, 0), "")
        self.assertEqual([code_at(0, 0, 1), code_at(1, 0, 1), code_at(0, 1, 1), code_at(1, 1, 1)], list("0123"))
        self.assertEqual(code_at(2, 1, 2), "12")
        self.assertEqual(code_at(1, 2, 2), "21")
        self.assertEqual([code_at(0, 0, 2), code_at(3, 0, 2), code_at(0, 3, 2), code_at(3, 3, 2)],
                         ["00", "11", "22", "33"])

    def test_ends_at_level_40(self):
        self.assertEqual(code_at(0, 0, 40), "0" * 40)
        self.assertEqual(code_at(LAST, 0, 40), "1" * 40)
        self.assertEqual(code_at(0, LAST, 40), "2" * 40)
        self.assertEqual(code_at(LAST, LAST, 40), "3" * 40)
        self.assertEqual(code_at(HALF, HALF - 1, 40), "1" + "2" * 39)

    def test_there_and_back(self):
        for level in range(5):
            for x in range(2 ** level):
                for y in range(2 ** level):
                    code = code_at(x, y, level)
                    self.assertEqual(len(code), level)
                    self.assertEqual(corner(code, level), (x, y, 1))
        for x, y in [(0, LAST), (123456789012, 987654321098), (HALF, HALF - 1), (1, 0)]:
            self.assertEqual(corner(code_at(x, y, 40), 40), (x, y, 1))
        self.assertEqual(code_at(*corner(LONG, 40)[:2], 40), LONG)

    def test_no_place(self):
        for thing in ODD + TEXTS:
            assert_refused(self, NoPlace, code_at, thing, 0, 3)
            assert_refused(self, NoPlace, code_at, 0, thing, 3)
            assert_refused(self, NoPlace, code_at, thing, thing, 3)
        for level in [0, 1, 2, 40]:
            for number in [-THIRTY, -1, 2 ** level, 2 ** level + 1, THIRTY]:
                assert_refused(self, NoPlace, code_at, number, 0, level)
                assert_refused(self, NoPlace, code_at, 0, number, level)

    def test_no_level(self):
        for thing in NO_LEVELS:
            assert_refused(self, NoLevel, code_at, 0, 0, thing)

    def test_of_two_refusals_the_level_comes_first(self):
        for thing in NO_LEVELS:
            assert_refused(self, NoLevel, code_at, -1, 0, thing)
            assert_refused(self, NoLevel, code_at, 0, None, thing)
            assert_refused(self, NoLevel, code_at, True, "0", thing)


class Beside(unittest.TestCase):
    def test_within_a_square(self):
        self.assertEqual(beside("0", "right"), "1")
        self.assertEqual(beside("0", "down"), "2")
        self.assertEqual(beside("3", "up"), "1")
        self.assertEqual(beside("3", "left"), "2")
        self.assertEqual(beside("120", "down"), "122")

    def test_over_the_middle(self):
        self.assertEqual(beside("011", "right"), "100")
        self.assertEqual(beside("100", "left"), "011")
        self.assertEqual(beside("022", "down"), "200")
        self.assertEqual(beside("200", "up"), "022")
        self.assertEqual(beside("0" + "3" * 39, "right"), "1" + "2" * 39)
        self.assertEqual(beside("2" + "1" * 39, "up"), "0" + "3" * 39)

    def test_ends_of_the_sheet(self):
        for side, signs in [("up", "01"), ("right", "13"), ("down", "23"), ("left", "02")]:
            for code in [signs[0], signs[1], signs, signs * 20, signs[0] * 40, signs[1] * 40]:
                self.assertIsNone(beside(code, side))

    def test_the_whole_sheet(self):
        for side in SIDES:
            self.assertIsNone(beside("", side))

    def test_all_short_codes(self):
        for length in range(5):
            for code in codes_of_length(length):
                x, y, _ = corner(code, length)
                for side in SIDES:
                    at = (x + GOES[side][0], y + GOES[side][1])
                    inside = 0 <= min(at) and max(at) < 2 ** length
                    self.assertEqual(beside(code, side), code_at(*at, length) if inside else None)

    def test_one_way_and_back(self):
        for code in codes_up_to(4) + [LONG, "3" + "0" * 39, "0" * 39 + "3"]:
            for side in SIDES:
                other = beside(code, side)
                if other is not None:
                    self.assertEqual(beside(other, BACK[side]), code)

    def test_refusals(self):
        for thing in NO_CODES:
            assert_refused(self, NoCode, beside, thing, "up")
        for thing in NO_SIDES:
            for code in ["", "0", "12", "3" * 40]:
                assert_refused(self, NoSide, beside, code, thing)

    def test_of_two_refusals_the_code_comes_first(self):
        for thing in NO_CODES:
            for side in NO_SIDES:
                assert_refused(self, NoCode, beside, thing, side)


class Holds(unittest.TestCase):
    def test_ordinary(self):
        for code, other, answer in [
            ("", "", True), ("12", "12", True), (LONG, LONG, True),
            ("", "0", True), ("1", "123", True), ("", "3" * 40, True), ("3" * 39, "3" * 40, True),
            ("0", "", False), ("123", "1", False), ("3" * 40, "3" * 39, False),
            ("1", "2", False), ("12", "132", False), ("2", "12", False), ("23", "123", False),
        ]:
            self.assertIs(holds(code, other), answer)

    def test_by_places(self):
        for code in codes_up_to(2):
            for other in codes_up_to(3):
                within = set(places_of(other, 3)) <= set(places_of(code, 3))
                self.assertIs(holds(code, other), within)

    def test_refusals(self):
        for thing in NO_CODES:
            assert_refused(self, NoCode, holds, thing, "0")
            assert_refused(self, NoCode, holds, "", thing)
            assert_refused(self, NoCode, holds, thing, thing)


class Numbers(unittest.TestCase):
    def test_the_four_that_are_told(self):
        for code, number in [("", 1), ("0", 4), ("3", 7), ("12", 22)]:
            self.assertEqual(numbered(code), number)
            self.assertEqual(code_of(number), code)

    def test_codes_of_40_signs(self):
        for code, number in [("0" * 40, 4 ** 40), ("3" * 40, 2 * 4 ** 40 - 1), (LONG, int("1" + "00011011" * 10, 2))]:
            self.assertEqual(numbered(code), number)
            self.assertEqual(code_of(number), code)

    def test_there_and_back(self):
        for code in codes_up_to(4):
            self.assertEqual(numbered(code), int("1" + "".join(f"{int(sign):02b}" for sign in code), 2))
            self.assertEqual(code_of(numbered(code)), code)

    def test_each_small_number_is_a_codes_or_refused(self):
        numbers = [numbered(code) for code in codes_up_to(4)]
        for number in range(-5, 512):
            if number in numbers:
                self.assertEqual(numbered(code_of(number)), number)
            else:
                assert_refused(self, NoCode, code_of, number)

    def test_no_numbers_of_codes(self):
        numbers = [0, -1, -4, -22, -THIRTY, 2, 3, *range(8, 16), 4 ** 40 - 1, 2 * 4 ** 40, 3 * 4 ** 40,
                   4 ** 41, 4 ** 41 + 1, 4 ** 42, 4 ** 100, THIRTY, 10 ** 299]
        for thing in ODD + TEXTS + numbers:
            assert_refused(self, NoCode, code_of, thing)

    def test_no_codes(self):
        for thing in NO_CODES:
            assert_refused(self, NoCode, numbered, thing)


class Common(unittest.TestCase):
    def both_ways(self, code, other, level, long):
        self.assertEqual(common(code, other, level), long, (code, other, level))
        self.assertEqual(common(other, code, level), long, (other, code, level))

    def test_equally_wide(self):
        self.both_ways("0", "1", 1, 1)
        self.both_ways("0", "2", 3, 4)
        self.both_ways("03", "12", 2, 1)
        self.both_ways("03", "12", 4, 4)

    def test_unequally_wide(self):
        self.both_ways("0", "12", 3, 2)
        self.both_ways("0", "100", 3, 1)
        self.both_ways("3", "123", 3, 1)
        self.both_ways("3", "21", 5, 8)

    def test_a_corner_alone(self):
        self.both_ways("0", "3", 1, 0)
        self.both_ways("1", "2", 4, 0)
        self.both_ways("0", "300", 3, 0)
        self.both_ways("03", "3", 2, 0)

    def test_apart(self):
        self.both_ways("00", "11", 2, 0)
        self.both_ways("0", "13", 2, 0)
        self.both_ways("00", "33", 2, 0)
        self.both_ways("00", "01", 2, 1)
        self.both_ways("00", "10", 2, 0)

    def test_within_and_the_same(self):
        self.both_ways("", "", 0, 0)
        self.both_ways("", "0", 1, 0)
        self.both_ways("1", "11", 2, 0)
        self.both_ways("1", "123", 3, 0)
        self.both_ways("12", "12", 3, 0)

    def test_level_40(self):
        self.both_ways("0", "1", 40, HALF)
        self.both_ways("0" + "1" * 39, "1" + "0" * 39, 40, 1)
        self.both_ways("0", "1" + "0" * 39, 40, 1)
        self.both_ways("2", "0" + "2" * 20, 40, 2 ** 19)
        self.both_ways("0" + "3" * 39, "3" + "0" * 39, 40, 0)
        self.both_ways("0" * 40, "3" * 40, 40, 0)
        self.both_ways("", LONG, 40, 0)
        self.both_ways(LONG, LONG, 40, 0)

    def test_by_places(self):
        codes = codes_up_to(3)
        places = {code: set(places_of(code, 3)) for code in codes}
        for code in codes:
            for other in codes:
                meet = 0
                if not places[code] & places[other]:
                    meet = sum((x + right, y + down) in places[other]
                               for x, y in places[code] for right, down in GOES.values())
                self.assertEqual(common(code, other, 3), meet)

    def test_refusals(self):
        for thing in NO_CODES:
            assert_refused(self, NoCode, common, thing, "0", 40)
            assert_refused(self, NoCode, common, "0", thing, 40)
        for thing in NO_LEVELS:
            assert_refused(self, NoLevel, common, "", "", thing)
            assert_refused(self, NoLevel, common, "0", "12", thing)
        for code, other, level in [("0", "", 0), ("01", "2", 1), ("0" * 40, "1", 39)]:
            assert_refused(self, NoLevel, common, code, other, level)
            assert_refused(self, NoLevel, common, other, code, level)

    def test_of_two_refusals_the_code_comes_first(self):
        for thing in NO_CODES:
            for level in NO_LEVELS + [0]:
                assert_refused(self, NoCode, common, thing, "0", level)
                assert_refused(self, NoCode, common, "0", thing, level)
        assert_refused(self, NoCode, common, "012", "4", 1)
