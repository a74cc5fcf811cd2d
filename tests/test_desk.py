import itertools
import unittest

from quartersheet.desk import Desk
from quartersheet.errors import (
    NoCode, NoColour, NoLeaf, NoLevel, NoName, NoNumber, NoPlace, NoRow, NoSide, NoText, SheetError,
)
from tests.helper import (
    NO_TEXT_WORDS, ODD, THIRTY, WHOLES, answer_in_short, assert_refused, chequered, snake, text_from,
)

LAST = 2 ** 40 - 1
# The rows as the interface lists them.
FORMS = """plain NEW LEVEL COLOUR; read NEW TEXT; copy NEW ONE; drop ONE; part NEW ONE CODE;
window NEW ONE X Y LEVEL COLOUR; over NEW LOWER UPPER COLOUR; paint ONE CODE COLOUR; map ONE COLOUR COLOUR; turn ONE;
mirror ONE; swap ONE; put ONE CODE OTHER; lay ONE X Y OTHER; finer ONE NUMBER; coarser ONE NUMBER; show ONE; at ONE X Y;
same ONE OTHER; area ONE COLOUR; leaves ONE; beyond ONE CODE SIDE; lands ONE; steps ONE X Y X Y; rings ONE X Y"""
KINDS = {
    "NEW": "new", "ONE": "name", "OTHER": "name", "LOWER": "name", "UPPER": "name", "LEVEL": "number", "X": "number",
    "Y": "number", "NUMBER": "number", "COLOUR": "colour", "CODE": "code", "SIDE": "side", "TEXT": "text",
}
# At a desk of START: for each first word a row that is not refused, its answer, and what the sheet it makes becomes.
START = {"a": "2:+0+10012b", "b": "2:5", "tiny": "1:7", "big": "40:+0123", "seven": "7:1"}
GOOD = {
    "plain": ("plain fresh 3 z", "ok", "3:z"),
    "read": ("read fresh 2:+0+111123", "ok", "2:+0123"),
    "copy": ("copy fresh a", "ok", "2:+0+10012b"),
    "drop": ("drop a", "ok", None),
    "part": ("part fresh a 1", "ok", "1:+1001"),
    "window": ("window fresh a 1 -1 1 z", "ok", "1:+zz01"),
    "over": ("over fresh b a 0", "ok", "2:+5+15512b"),
    "paint": ("paint a 12 z", "ok", "2:+0+10z12b"),
    "map": ("map a 0 1", "ok", "2:+112b"),
    "turn": ("turn a", "ok", "2:++0110b02"),
    "mirror": ("mirror a", "ok", "2:++01100b2"),
    "swap": ("swap a", "ok", "2:+02+1001b"),
    "put": ("put a 1 tiny", "ok", "2:+072b"),
    "lay": ("lay a 2 1 tiny", "ok", "2:+0+10772+77bb"),
    "finer": ("finer a 3", "ok", "5:+0+10012b"),
    "coarser": ("coarser a 1", "ok", "1:+002b"),
    "show": ("show a", "2:+0+10012b", None),
    "at": ("at a 3 2", "b", None),
    "same": ("same a b", "no", None),
    "area": ("area a 0", "6", None),
    "leaves": ("leaves a", "7", None),
    "beyond": ("beyond a 0 right", "10 12", None),
    "lands": ("lands a", "6", None),
    "steps": ("steps a 0 0 1 1", "0", None),
    "rings": ("rings a 0 0", "1", None),
}
NO_NAMES = ["", "A", "aB", "a1", "1", "0", "-", "a-", "a_b", "ninesigns", "abcdefghi", "z" * 40, "a.", "+", "~", "a\tb"]
BAD_NUMBERS = [
    "", "-", "--", "--1", "-0", "00", "01", "-00", "-01", "+1", "+0", "1-", "1.0", "1_0", "1e3", "0x1", "a", "1a", "a1",
    "1" * 31, "-" + "1" * 31, "0" * 30, "9" * 4000, ":", "1+1", "\t1", "1\n",
]
BAD = {
    "new": (NoName, NO_NAMES),
    "name": (NoName, NO_NAMES + ["nobody", "z", "aa", "tin", "tinyy", "abcdefgh"]),
    "code": (NoCode, ["", "--", "-0", "0-", "4", "0124", "4012", "a", "+", "up", "0" * 41, "3" * 4000, ".", "0\t1"]),
    "colour": (NoColour, ["", "A", "Z", "+", "-", ":", "~", "00", "01", "0z", "zz", "-1", "35", "{", "/", "`", "\t"]),
    "number": (NoNumber, BAD_NUMBERS),
    "side": (NoSide, ["", "Up", "UP", "u", "upp", "-", "0", "top", "left,right", "RIGHT", "down\n", "\tleft"]),
    "text": (NoText, NO_TEXT_WORDS),
}


def forms():
    rows = [form.split() for form in FORMS.split(";")]
    return {words[0]: [KINDS[word] for word in words[1:]] for words in rows}


def desk_of(texts):
    desk = Desk()
    for name, text in texts.items():
        desk.say(f"read {name} {text}")
    return desk


def kept_by(desk, names):
    found = {}
    for name in names:
        try:
            found[name] = desk.say(f"show {name}")
        except NoName:
            pass
    return found


NAMES = list(START) + ["fresh", "c", "z", "nobody", "aa", "abcdefgh", "tin", "tinyy"]


class DeskCase(unittest.TestCase):
    def assert_row_refused(self, refusal, row, desk=None):
        # What is refused changes nothing.
        desk = desk_of(START) if desk is None else desk
        before = kept_by(desk, NAMES)
        assert_refused(self, refusal, desk.say, row)
        self.assertEqual(kept_by(desk, NAMES), before)

    def assert_answers(self, *rows):
        # Rows and answers by turns, all told to one desk.
        desk = desk_of(START)
        for row, answer in zip(rows[::2], rows[1::2]):
            told = desk.say(row)
            self.assertIs(type(told), str)
            self.assertEqual(told, answer, row)


class Rows(DeskCase):
    def test_all_rows_are_looked_at_here(self):
        self.assertEqual(sorted(GOOD), sorted(forms()))
        for first, (row, answer, text) in GOOD.items():
            self.assertEqual(len(row.split(" ")), 1 + len(forms()[first]))

    def test_each_row_and_what_it_makes(self):
        for first, (row, answer, text) in GOOD.items():
            desk = desk_of(START)
            self.assertEqual(desk.say(row), answer, row)
            expected = dict(START)
            if first == "drop":
                expected.pop("a")
            elif answer == "ok":
                expected[row.split(" ")[1]] = text
            self.assertEqual(kept_by(desk, NAMES), expected, row)

    def test_plain(self):
        self.assert_answers(
            "plain c 0 0", "ok", "show c", "0:0", "plain c 40 z", "ok", "show c", "40:z", "plain a 1 a", "ok",
            "show a", "1:a", "plain abcdefgh 2 9", "ok", "show abcdefgh", "2:9",
        )
        for level in ["41", "-1", "-40", "9" * 30, "-" + "9" * 30, "100"]:
            self.assert_row_refused(NoLevel, f"plain c {level} 0")
            self.assert_row_refused(NoLevel, f"plain a {level} 0")

    def test_read(self):
        self.assert_answers(
            "read c 2:+0+10012b", "ok", "same a c", "yes", "read c 2:++0000+1001+2222+bbbb", "ok", "same a c", "yes",
            "show c", "2:+0+10012b", "read a 40:+" + "+0000" * 4, "ok", "show a", "40:0",
        )

    def test_copy_and_drop(self):
        self.assert_answers(
            "copy c a", "ok", "same c a", "yes", "paint a - 1", "ok", "show c", "2:+0+10012b", "show a", "2:1",
            "copy a a", "ok", "show a", "2:1", "copy b c", "ok", "show b", "2:+0+10012b", "drop c", "ok",
            "show b", "2:+0+10012b", "copy c b", "ok", "show c", "2:+0+10012b",
        )
        desk = desk_of(START)
        desk.say("drop a")
        for row in ["drop a", "show a", "copy c a", "same a a", "paint a 0 0"]:
            self.assert_row_refused(NoName, row, desk)
        self.assertEqual(desk.say("plain a 0 3"), "ok")
        self.assertEqual(desk.say("show a"), "0:3")

    def test_part(self):
        self.assert_answers(
            "part c a -", "ok", "same a c", "yes", "part c a 12", "ok", "show c", "0:0", "part c a 33", "ok",
            "show c", "0:b", "part a a 1", "ok", "show a", "1:+1001", "part c big " + "3" * 40, "ok", "show c", "0:3",
        )
        for code in ["000", "0" * 40]:
            self.assert_row_refused(NoCode, f"part c a {code}")
            self.assert_row_refused(NoCode, f"part a a {code}")

    def test_window(self):
        figures = str(THIRTY)
        self.assert_answers(
            "window c a 0 0 2 z", "ok", "same a c", "yes", "window c a 2 1 0 z", "ok", "show c", "0:0",
            f"window c a {figures} -{figures} 6 z", "ok", "show c", "6:z",
            f"window c a -{figures} {figures} 1 3", "ok", "show c", "1:3", "window a a -2 -2 2 b", "ok",
            "show a", "2:+bbb0", "window c b -1 0 1 0", "ok", "show c", "1:+0505",
        )
        for row in ["window c seven 0 0 2 z", "window c big 0 0 2 z", "window c a 0 0 7 z", "window c a 0 0 -1 z",
                    "window a a 0 0 40 z", "window c a 0 0 " + "9" * 30 + " z"]:
            self.assert_row_refused(NoLevel, row)

    def test_over(self):
        self.assert_answers(
            "over c a b 0", "ok", "show c", "2:5", "over c a b 5", "ok", "same a c", "yes", "over a b a b", "ok",
            "show a", "2:+0+100125", "over c tiny tiny 7", "ok", "show c", "1:7",
        )
        for row in ["over c a tiny 0", "over c tiny a 0", "over a big a 0", "over c seven b 0"]:
            self.assert_row_refused(NoLevel, row)

    def test_paint(self):
        self.assert_answers(
            "paint a - z", "ok", "show a", "2:z", "paint a 0 1", "ok", "show a", "2:+1zzz", "paint a 0 z", "ok",
            "show a", "2:z", "paint a 33 0", "ok", "show a", "2:+zzz+zzz0", "paint big " + "0" * 40 + " 1", "ok",
            "area big 1", str(4 ** 39 + 1), "area big 0", str(4 ** 39 - 1),
        )
        for code in ["000", "0" * 40]:
            self.assert_row_refused(NoCode, f"paint a {code} z")

    def test_map(self):
        self.assert_answers(
            "map a 0 0", "ok", "show a", "2:+0+10012b", "map a z 0", "ok", "show a", "2:+0+10012b", "map a 1 0", "ok",
            "show a", "2:+002b", "map a b z", "ok", "show a", "2:+002z", "map b 5 a", "ok", "show b", "2:a",
        )

    def test_turns(self):
        self.assert_answers(
            "copy c a", "ok", "turn a", "ok", "turn a", "ok", "turn a", "ok", "turn a", "ok", "same a c", "yes",
            "mirror a", "ok", "same a c", "no", "mirror a", "ok", "same a c", "yes", "swap a", "ok", "swap a", "ok",
            "same a c", "yes", "turn big", "ok", "show big", "40:+1302", "mirror big", "ok", "show big", "40:+3120",
            "swap big", "ok", "show big", "40:+3210",
        )

    def test_put(self):
        self.assert_answers(
            "put a - b", "ok", "show a", "2:5", "put a 3 tiny", "ok", "show a", "2:+5557", "put b - b", "ok",
            "show b", "2:5", "plain c 0 9", "ok", "put a 01 c", "ok", "show a", "2:++5955557",
        )
        for row in ["put a 0 b", "put a - tiny", "put a 00 tiny", "put big 0 a", "put tiny - b"]:
            self.assert_row_refused(NoLevel, row)
        for row in ["put a 000 tiny", "put a 000 b", "put tiny 00 tiny"]:
            self.assert_row_refused(NoCode, row)

    def test_lay(self):
        figures = str(THIRTY)
        self.assert_answers(
            "lay a -1 -1 tiny", "ok", "show a", "2:++7000+10012b", f"lay a {figures} 0 tiny", "ok",
            f"lay a 0 -{figures} tiny", "ok", "show a", "2:++7000+10012b", "lay a 0 0 b", "ok", "show a", "2:5",
            "lay a 1 0 a", "ok", "show a", "2:5", "lay tiny 0 0 b", "ok", "show tiny", "1:5",
        )
        self.assert_answers("lay a 1 0 a", "ok", "show a", "2:+0+01002+2b2b")
        for row in ["lay a 0 0 seven", "lay seven 0 0 a", "lay big 0 0 big"]:
            self.assert_row_refused(NoLevel, row)

    def test_finer_and_coarser(self):
        self.assert_answers(
            "finer a 0", "ok", "show a", "2:+0+10012b", "finer a 38", "ok", "show a", "40:+0+10012b", "coarser a 38",
            "ok", "show a", "2:+0+10012b", "coarser a 2", "ok", "show a", "0:0", "coarser a 0", "ok", "show a", "0:0",
        )
        for number in ["-1", "39", "41", "9" * 30, "-" + "9" * 30]:
            self.assert_row_refused(NoLevel, f"finer a {number}")
        for number in ["-1", "3", "40", "9" * 30, "-" + "9" * 30]:
            self.assert_row_refused(NoLevel, f"coarser a {number}")

    def test_at(self):
        rows = ["0010", "0001", "22bb", "22bb"]
        for y, x in itertools.product(range(4), repeat=2):
            self.assert_answers(f"at a {x} {y}", rows[y][x])
        self.assert_answers(f"at big {LAST} {LAST}", "3", "map big 3 z", "ok", f"at big {LAST} {LAST}", "z")
        for place in ["4 0", "0 4", "-1 0", "0 -1", "9" * 30 + " 0", "0 -" + "9" * 30]:
            self.assert_row_refused(NoPlace, f"at a {place}")

    def test_same(self):
        self.assert_answers(
            "same a a", "yes", "same a b", "no", "same b a", "no", "plain c 2 5", "ok", "same b c", "yes",
            "plain c 3 5", "ok", "same b c", "no", "plain c 2 6", "ok", "same b c", "no",
        )

    def test_area(self):
        self.assert_answers(
            "area a 1", "2", "area a b", "4", "area a z", "0", "area b 5", "16", "area b 0", "0",
            "area big 3", str(4 ** 39), "map big 3 2", "ok", "area big 2", str(2 * 4 ** 39), "area big 3", "0",
        )

    def test_leaves_and_lands(self):
        self.assert_answers(
            "leaves b", "1", "lands b", "1", "leaves big", "4", "lands big", "4", "map big 0 1", "ok",
            "leaves big", "4", "lands big", "3", "read c 1:+0110", "ok", "leaves c", "4", "lands c", "4",
            "map a 1 0", "ok", "leaves a", "4", "lands a", "3",
        )

    def test_beyond(self):
        self.assert_answers(
            "beyond a 12 left", "0", "beyond a 3 up", "12 13", "beyond a 0 up", "", "beyond b - left", "",
            "beyond a 11 down", "13", "beyond a 2 right", "3", "beyond big 0 right", "1",
        )
        for row in ["beyond a - up", "beyond a 1 up", "beyond a 00 up", "beyond b 0 left", "beyond a 000 down",
                    "beyond big " + "0" * 40 + " up"]:
            self.assert_row_refused(NoLeaf, row)

    def test_steps(self):
        self.assert_answers(
            "steps a 0 0 0 0", "0", "steps a 2 0 3 1", "none", "steps a 3 0 2 1", "none", "steps a 0 0 3 0", "none",
            "steps a 0 0 2 1", "1", "steps b 0 0 3 3", "0", "map a 1 0", "ok", "steps a 0 0 3 0", "1",
            "map a 2 0", "ok", "steps a 0 3 3 0", "2", f"steps big 0 0 {LAST} 0", "none", "map big 1 0", "ok",
            f"steps big 0 0 {LAST} 0", "1", f"steps big {LAST} 0 {LAST} 5", "0",
        )
        for places in ["4 0 0 0", "0 -1 0 0", "0 0 4 0", "0 0 0 -1", "0 0 0 " + "9" * 30]:
            self.assert_row_refused(NoPlace, f"steps a {places}")

    def test_rings(self):
        self.assert_answers(
            "rings a 0 0", "1", "rings b 3 3", "1", f"rings big {LAST} 0", "1", "read c 2:+" + "+1110" + "111", "ok",
            "rings c 0 0", "2", "rings c 1 1", "1", "paint c 21 0", "ok", "rings c 0 0", "2",
            "paint big " + "0" + "3" * 39 + " 7", "ok", "rings big 0 0", "1", "map big 1 0", "ok",
            "map big 2 0", "ok", "map big 3 0", "ok", "rings big 0 0", "2",
        )
        for place in ["4 0", "0 4", "-1 0", "0 -1", "9" * 30 + " 0"]:
            self.assert_row_refused(NoPlace, f"rings a {place}")

    def test_names(self):
        desk = Desk()
        names = ["a", "z", "ab", "zz", "plain", "read", "ok", "abcdefgh", "zzzzzzzz", "none", "up"]
        for at, name in enumerate(names):
            self.assertEqual(desk.say(f"plain {name} {at} 1"), "ok")
        for at, name in enumerate(names):
            self.assertEqual(desk.say(f"show {name}"), f"{at}:1")

    def test_a_new_name_by_which_a_sheet_stands_replaces_it(self):
        for first, (row, answer, text) in GOOD.items():
            if "new" in forms()[first]:
                for name in ["b", "a", "big"]:
                    desk = desk_of(START)
                    self.assertEqual(desk.say(row.replace("fresh", name)), "ok")
                    self.assertEqual(kept_by(desk, NAMES), {**START, name: text})

    def test_numbers(self):
        for word in ["0", "1", "-1", "10", "-10", "-" + "9" * 30, "9" * 30, "1" + "0" * 29, str(THIRTY)]:
            self.assert_answers(f"window c a {word} {word} 0 z", "ok")
            self.assert_answers(f"lay a {word} 0 b", "ok")
            self.assert_answers(f"lay a 0 {word} b", "ok")
        self.assert_answers("window c a -1 -1 1 z", "ok", "show c", "1:+zzz0")

    def test_some_thousand_leaves_in_a_short_time(self):
        many = (40, (chequered(5, 5, 1, 2)[1], 0, 0, 0))
        desk = desk_of({"a": text_from(many), "snake": text_from((40, snake()[1][0]))})
        for row, answer in [
            ("leaves a", "1027"), ("lands a", "1025"), ("leaves snake", "1024"), ("rings snake 0 0", "1"),
            ("turn a", "ok"), ("coarser a 20", "ok"), ("leaves a", "1027"),
        ]:
            self.assertEqual(answer_in_short(self, desk.say, row), answer)


class Refusals(DeskCase):
    def test_no_text(self):
        for thing in ODD + WHOLES + [["show", "a"], ("show", "a"), {"show": "a"}, ["show a"]]:
            self.assert_row_refused(NoRow, thing)

    def test_other_first_words(self):
        rests = ["", " ", " a", " a b", " a 0 0", " a 0 0 0 0", " fresh 2 0", " fresh a 0 0 2 0", " A", " nobody"]
        for first in ["", "Show", "SHOW", "sho", "shows", "rim", "touches", "0", "-", "mix", "ok", "a", "\tshow"]:
            for rest in rests:
                self.assert_row_refused(NoRow, first + rest)

    def test_a_word_too_many_or_too_few(self):
        for first, (row, answer, text) in GOOD.items():
            words = row.split(" ")
            for number in range(1, len(words)):
                self.assert_row_refused(NoRow, " ".join(words[:number]))
            for more in ["a", "0", "", "!", "a b"]:
                self.assert_row_refused(NoRow, row + " " + more)
                self.assert_row_refused(NoRow, row + " " + more + " a b c")

    def test_blanks_at_the_ends_and_side_by_side_make_words(self):
        for first, (row, answer, text) in GOOD.items():
            words = row.split(" ")
            self.assert_row_refused(NoRow, " " + row)
            self.assert_row_refused(NoRow, row + " ")
            for at in range(1, len(words)):
                self.assert_row_refused(NoRow, " ".join(words[:at]) + "  " + " ".join(words[at:]))

    def test_a_word_without_signs_is_nothing_that_a_row_asks_for(self):
        for first, (row, answer, text) in GOOD.items():
            words = row.split(" ")
            for at, kind in enumerate(forms()[first], start=1):
                self.assert_row_refused(BAD[kind][0], " ".join(words[:at] + [""] + words[at + 1:]))

    def test_each_sign_that_is_none(self):
        desk = desk_of(START)
        figures, letters = "0123456789", "abcdefghijklmnopqrstuvwxyz"
        for sign in [chr(number) for number in range(33, 127)]:
            for known, refusal, row in [
                (figures, NoNumber, f"at a 1{sign} 0"), (figures + "-", NoNumber, f"at a 0 {sign}1"),
                (letters, NoName, f"plain b{sign} 1 0"), (letters, NoName, f"plain {sign} 1 0"),
                (figures + letters, NoColour, f"area a {sign}"), ("0123", NoCode, f"paint a 1{sign} 0"),
                ("0123-", NoCode, f"paint a {sign} 0"),
            ]:
                if sign not in known:
                    self.assert_row_refused(refusal, row, desk)

    def test_each_word_of_each_row(self):
        for first, (row, answer, text) in GOOD.items():
            words = row.split(" ")
            desk = desk_of(START)
            for at, kind in enumerate(forms()[first], start=1):
                refusal, bad = BAD[kind]
                for word in bad:
                    self.assert_row_refused(refusal, " ".join(words[:at] + [word] + words[at + 1:]), desk)

    def test_of_two_bad_words_the_first_from_the_left(self):
        for first, (row, answer, text) in GOOD.items():
            kinds = forms()[first]
            for at, behind in itertools.combinations(range(len(kinds)), 2):
                for bad, bad_behind in zip(BAD[kinds[at]][1][::3], itertools.cycle(BAD[kinds[behind]][1])):
                    words = row.split(" ")
                    words[at + 1], words[behind + 1] = bad, bad_behind
                    self.assert_row_refused(BAD[kinds[at]][0], " ".join(words))

    def test_where_all_words_are_bad(self):
        for first, kinds in forms().items():
            bad = [BAD[kind][1][3] for kind in kinds]
            self.assert_row_refused(BAD[kinds[0]][0], " ".join([first] + bad))
            self.assert_row_refused(NoRow, " ".join([first] + bad + bad[:1]))

    def test_the_words_come_ahead_of_the_deed(self):
        for refusal, row in [
            (NoColour, "plain c 41 A"), (NoColour, "window c big 0 0 7 !"), (NoNumber, "window c big 0 0 07 z"),
            (NoName, "put a 000 nobody"), (NoName, "put a 0000 B"), (NoColour, "paint a 000 Z"),
            (NoSide, "beyond a 000 nowhere"), (NoSide, "beyond a - UP"), (NoNumber, "at a 9 x"),
            (NoNumber, "steps a 9 9 -0 0"), (NoNumber, "steps a 9 9 9 00"), (NoNumber, "rings a -1 01"),
            (NoColour, "over c a tiny ="), (NoName, "lay big 0 0 nobody"), (NoName, "over c big nobody 0"),
        ]:
            self.assert_row_refused(refusal, row)

    def test_of_two_refusals_of_a_deed(self):
        self.assert_row_refused(NoCode, "put a 000 big")
        self.assert_row_refused(NoLevel, "window c seven 0 0 9 z")

    def test_a_desk_without_sheets(self):
        desk = Desk()
        for first, (row, answer, text) in GOOD.items():
            if first not in ("plain", "read"):
                self.assert_row_refused(NoName, row, desk)
                self.assertEqual(kept_by(desk, NAMES), {})

    def test_questions_change_nothing(self):
        desk = desk_of(START)
        for first, (row, answer, text) in GOOD.items():
            if answer != "ok":
                for again in range(2):
                    self.assertEqual(desk.say(row), answer)
        self.assertEqual(kept_by(desk, NAMES), START)

    def test_all_refusals_are_sheet_errors(self):
        desk = desk_of(START)
        for row in [None, "", "show", "show A", "paint a 4 0", "paint a 0 A", "plain c x 0", "beyond a 0 x", "read c x",
                    "plain c 41 0", "at a 4 0", "beyond a 1 up"]:
            with self.assertRaises(SheetError):
                desk.say(row)


class TwoDesks(DeskCase):
    def test_they_know_nothing_of_one_another(self):
        one, other = Desk(), Desk()
        one.say("plain a 3 1")
        self.assert_row_refused(NoName, "show a", other)
        other.say("plain a 2 5")
        other.say("plain b 1 7")
        self.assert_row_refused(NoName, "show b", one)
        one.say("paint a 0 9")
        self.assertEqual(other.say("show a"), "2:5")
        self.assertEqual(one.say("show a"), "3:+9111")
        other.say("drop a")
        self.assertEqual(one.say("show a"), "3:+9111")
        self.assert_row_refused(NoName, "show a", Desk())
