import unittest

from quartersheet.errors import NoLevel, NoText
from quartersheet.leaves import sheet_of
from quartersheet.sheets import is_sheet
from quartersheet.texts import read, rows_of, sheet_of_rows, written
from tests.helper import (
    ALL_SIGNS, NO_TEXTS, ODD, WHOLES, answer_in_short, answer_of, assert_own_list, assert_refused, chequered, drawn,
    leaves_from, picture_of, places_of, sheet_from, small_sheets, speckled, spot, text_from,
)

LONG = "0123" * 10
FOUR = (0, 1, 2, 3)
DEEP = "40:" + "+" * 40 + "0" * 120 + "1"


def all_colours(level):
    return sheet_from(level, {(x, y): (x + 2 ** level * y) % 36 for x, y in places_of("", level)})


def parted_text(sheet, deep):
    # The same picture, with squares of one colour parted into their quarters, so deep at most.
    def signs_of(part, level, more):
        if isinstance(part, tuple):
            return "+" + "".join(signs_of(quarter, level - 1, more) for quarter in part)
        if level > 0 and more > 0:
            return "+" + signs_of(part, level - 1, more - 1) * 4
        return ALL_SIGNS[part]
    return f"{sheet[0]}:{signs_of(sheet[1], sheet[0], deep)}"


class Written(unittest.TestCase):
    def test_ordinary(self):
        for sheet, text in [
            ((2, (0, (1, 0, 0, 1), 2, 11)), "2:+0+10012b"), ((0, 0), "0:0"), ((0, 35), "0:z"), ((40, 10), "40:a"),
            ((1, FOUR), "1:+0123"), ((9, 9), "9:9"), ((10, 9), "10:9"), ((40, (0, 0, 0, 1)), "40:+0001"),
            ((2, (FOUR, FOUR, 4, FOUR)), "2:++0123+01234+0123"), (spot(40, "3" * 40, 1, 0), "40:" + "+000" * 40 + "1"),
            (spot(40, "0" * 40, 1, 0), "40:" + "+" * 40 + "1" + "000" * 40),
        ]:
            self.assertEqual(answer_of(self, written, sheet), text)
            self.assertEqual(answer_of(self, read, text), sheet)

    def test_all_signs(self):
        for colour in range(36):
            self.assertEqual(written((7, colour)), "7:" + ALL_SIGNS[colour])
            self.assertEqual(read("7:" + ALL_SIGNS[colour]), (7, colour))
        self.assertEqual(read(written(all_colours(3))), all_colours(3))

    def test_all_levels(self):
        for level in range(41):
            self.assertEqual(written((level, 3)), str(level) + ":3")
            self.assertEqual(read(str(level) + ":3"), (level, 3))

    def test_small_sheets(self):
        for sheet in small_sheets() + [speckled(4, seed, 36) for seed in range(3)]:
            self.assertEqual(answer_of(self, written, sheet), text_from(sheet))
            self.assertEqual(answer_of(self, read, text_from(sheet)), sheet)

    def test_level_40(self):
        mixed = (40, (FOUR, 1, 2, spot(39, LONG[:30], 3, 4)[1]))
        for sheet in [spot(40, LONG, 35, 0), spot(40, "12" * 20, 1, 2), mixed]:
            self.assertEqual(written(sheet), text_from(sheet))
            self.assertEqual(read(written(sheet)), sheet)

    def test_some_thousand_leaves_in_a_short_time(self):
        # Three quarters of 1024 leaves and 341 parted squares each.
        tree = chequered(5, 5, 1, 2)[1]
        for level in [6, 40]:
            text = answer_in_short(self, written, (level, (tree, tree, tree, 7)))
            self.assertEqual(len(text), len(str(level)) + 1 + 1 + 3 * (1024 + 341) + 1)
            self.assertEqual(answer_in_short(self, read, text), (level, (tree, tree, tree, 7)))

    def test_one_picture_has_one_text(self):
        for sheet in small_sheets(3):
            cover = [(code, colour) for code, colour in leaves_from(sheet)]
            self.assertEqual(written(sheet_of(sheet[0], cover[::-1])), written(sheet))


class Read(unittest.TestCase):
    def test_four_quarters_of_one_colour(self):
        for text, sheet in [
            ("1:+0000", (1, 0)), ("2:+0000", (2, 0)), ("2:++0000+0000+0000+0000", (2, 0)), ("2:+000+0000", (2, 0)),
            ("2:+0+111123", (2, FOUR)), ("3:+zz+zzzz+z+zzzzzz", (3, 35)), ("3:+zz+zzzz+z+zzzyzz", None),
            ("40:+aaaa", (40, 10)), ("40:" + "+" * 40 + "0" * 121, (40, 0)), (DEEP, None),
        ]:
            if sheet is not None:
                self.assertEqual(answer_of(self, read, text), sheet)
                self.assertNotEqual(written(sheet), text)
            self.assertTrue(is_sheet(read(text)))
        self.assertEqual(read("3:+zz+zzzz+z+zzzyzz"), (3, (35, 35, 35, (35, (35, 35, 35, 34), 35, 35))))
        self.assertEqual(read(DEEP), (40, (0, 0, 0, 1)))

    def test_several_deep(self):
        for sheet in small_sheets():
            for deep in [1, 2, 3]:
                text = parted_text(sheet, deep)
                if len(text) <= 5000:
                    self.assertEqual(answer_of(self, read, text), sheet)
        self.assertEqual(read(parted_text((40, 7), 5)), (40, 7))
        self.assertEqual(read(parted_text((40, (1, 7, 7, 7)), 4)), (40, (1, 7, 7, 7)))

    def test_no_text(self):
        for thing in NO_TEXTS + ODD + WHOLES:
            assert_refused(self, NoText, read, thing)

    def test_a_sign_too_many_or_too_few(self):
        for sheet in small_sheets(3) + [spot(40, LONG, 1, 0)]:
            text = text_from(sheet)
            for more in ["0", "z", "+", ":", "+0000", " ", "\n"]:
                assert_refused(self, NoText, read, text + more)
            assert_refused(self, NoText, read, text[:-1])

    def test_each_sign_made_bad(self):
        text = "2:+0+10012b"
        for at in range(len(text)):
            for sign in ["A", "Z", " ", "-", "~", "!", "@", "[", "`", "{", "/", "_", ".", "\n"]:
                assert_refused(self, NoText, read, text[:at] + sign + text[at + 1:])

    def test_each_sign_that_is_no_figure(self):
        for sign in [chr(number) for number in range(32, 127)]:
            if sign not in "0123456789":
                for level in [sign, "1" + sign, sign + "1"]:
                    assert_refused(self, NoText, read, level + ":0")
            if sign not in ALL_SIGNS:
                assert_refused(self, NoText, read, "1:" + sign)
                assert_refused(self, NoText, read, "1:+01" + sign + "3")

    def test_a_plus_below_the_squares_of_one_place(self):
        for level in range(6):
            text = f"{level}:" + "+" * (level + 1) + "0" * (3 * level + 4)
            assert_refused(self, NoText, read, text)
            self.assertEqual(read(f"{level + 1}:" + text.partition(":")[2]), (level + 1, 0))


class RowsOf(unittest.TestCase):
    def test_ordinary(self):
        self.assertEqual(answer_of(self, rows_of, (0, 35)), ["z"])
        self.assertEqual(answer_of(self, rows_of, (1, FOUR)), ["01", "23"])
        self.assertEqual(answer_of(self, rows_of, (2, (0, (1, 0, 0, 1), 2, 11))), ["0010", "0001", "22bb", "22bb"])
        self.assertEqual(answer_of(self, rows_of, (3, 10)), ["aaaaaaaa"] * 8)

    def test_by_places(self):
        more = [all_colours(level) for level in range(7)] + [(6, 1), drawn(6, 1), speckled(5, 2)]
        for sheet in small_sheets() + more:
            picture, wide = picture_of(sheet), 2 ** sheet[0]
            rows = ["".join(ALL_SIGNS[picture[(x, y)]] for x in range(wide)) for y in range(wide)]
            self.assertEqual(answer_of(self, rows_of, sheet), rows)
            self.assertEqual(answer_of(self, sheet_of_rows, rows), sheet)

    def test_the_list_is_the_askers_own(self):
        for sheet in [(0, 0), (3, 5), (2, (0, (1, 0, 0, 1), 2, 11)), speckled(6, 1)]:
            assert_own_list(self, rows_of, sheet)

    def test_refusals(self):
        for level in [7, 8, 20, 39, 40]:
            for tree in [0, FOUR, spot(7, LONG[:7], 1, 0)[1]]:
                assert_refused(self, NoLevel, rows_of, (level, tree))


class SheetOfRows(unittest.TestCase):
    def test_ordinary(self):
        self.assertEqual(answer_of(self, sheet_of_rows, ["z"]), (0, 35))
        self.assertEqual(answer_of(self, sheet_of_rows, ["01", "23"]), (1, FOUR))
        self.assertEqual(answer_of(self, sheet_of_rows, ["aa", "aa"]), (1, 10))
        self.assertEqual(sheet_of_rows(["0010", "0001", "22bb", "22bb"]), (2, (0, (1, 0, 0, 1), 2, 11)))
        for level in range(7):
            self.assertEqual(sheet_of_rows(["5" * 2 ** level] * 2 ** level), (level, 5))

    def test_rows_and_back(self):
        for seed in range(4):
            for level in range(7):
                for sheet in [speckled(level, seed, 36), drawn(level, seed, 4, 9)]:
                    self.assertEqual(sheet_of_rows(rows_of(sheet)), sheet)

    def test_wrong_numbers_of_rows(self):
        assert_refused(self, NoText, sheet_of_rows, [])
        for number in [3, 5, 6, 7, 9, 12, 24, 48, 63, 65, 66, 127]:
            assert_refused(self, NoText, sheet_of_rows, ["0" * number] * number)
        for number in [128, 256, 1024, 4096]:
            assert_refused(self, NoText, sheet_of_rows, ["0" * number] * number if number < 200 else ["0"] * number)
        assert_refused(self, NoText, sheet_of_rows, ["0" * 64] * 128)
        assert_refused(self, NoText, sheet_of_rows, ["0" * 64] * 63)

    def test_rows_too_long_and_too_short(self):
        for level in range(7):
            wide = 2 ** level
            for at in [0, wide // 2, wide - 1]:
                for length in [0, wide - 1, wide + 1, 2 * wide]:
                    rows = ["0" * wide] * wide
                    rows[at] = "0" * length
                    assert_refused(self, NoText, sheet_of_rows, rows)
        assert_refused(self, NoText, sheet_of_rows, [""])
        assert_refused(self, NoText, sheet_of_rows, ["0", "0"])
        assert_refused(self, NoText, sheet_of_rows, ["0000"])
        assert_refused(self, NoText, sheet_of_rows, ["00", "00", "00", "00"])

    def test_signs_that_are_none(self):
        for sign in ["A", "Z", " ", "+", "-", ":", "~", "/", "@", "[", "`", "{", "\n", "\t"]:
            for wide in [1, 2, 8, 64]:
                for x, y in [(0, 0), (wide - 1, 0), (0, wide - 1), (wide // 2, wide // 2)]:
                    rows = ["0" * wide] * wide
                    rows[y] = "0" * x + sign + "0" * (wide - x - 1)
                    assert_refused(self, NoText, sheet_of_rows, rows)

    def test_things_that_are_no_texts(self):
        for thing in ODD + WHOLES:
            for at in range(2):
                rows = ["00", "00"]
                rows[at] = thing
                assert_refused(self, NoText, sheet_of_rows, rows)
            assert_refused(self, NoText, sheet_of_rows, [thing])
        assert_refused(self, NoText, sheet_of_rows, [["0", "0"], ["0", "0"]])
        assert_refused(self, NoText, sheet_of_rows, [("0", "0"), "00"])

    def test_things_that_are_no_lists(self):
        others = ["", "0", "z", "00", "0000", "1:0", ("0",), ("00", "00"), {0: "0"}, {"0": "0"}]
        for thing in others + WHOLES + [thing for thing in ODD if thing != ["0"]]:
            assert_refused(self, NoText, sheet_of_rows, thing)
