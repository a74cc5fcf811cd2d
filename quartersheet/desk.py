"""The desk: keeps sheets by names, is told rows of words, and answers each by a text."""

from quartersheet.beyond import beyond
from quartersheet.cutting import laid, part_at, put_in, window
from quartersheet.errors import NoCode, NoColour, NoName, NoNumber, NoRow
from quartersheet.kinds import is_code, need_side
from quartersheet.lands import lands
from quartersheet.leaves import areas, leaves
from quartersheet.mixing import mapped, over
from quartersheet.painting import painted
from quartersheet.rings import rings
from quartersheet.scaling import coarser, finer
from quartersheet.sheets import colour_at, plain
from quartersheet.steps import way_between
from quartersheet.texts import SIGNS, colour_of, is_number_word, read, written
from quartersheet.turning import mirrored, swapped, turned_left

LETTERS = "abcdefghijklmnopqrstuvwxyz"
MOST_LETTERS = 8
MOST_FIGURES = 30

# What the words behind each first word are. NEW is a name, ONE the name of a sheet that is there;
# the name by which a row's sheet is kept, if it makes one, is always the first of them.
FORMS = {
    "plain": "NEW NUMBER COLOUR",
    "read": "NEW TEXT",
    "copy": "NEW ONE",
    "drop": "ONE",
    "part": "NEW ONE CODE",
    "window": "NEW ONE NUMBER NUMBER NUMBER COLOUR",
    "over": "NEW ONE ONE COLOUR",
    "paint": "ONE CODE COLOUR",
    "map": "ONE COLOUR COLOUR",
    "turn": "ONE",
    "mirror": "ONE",
    "swap": "ONE",
    "put": "ONE CODE ONE",
    "lay": "ONE NUMBER NUMBER ONE",
    "finer": "ONE NUMBER",
    "coarser": "ONE NUMBER",
    "show": "ONE",
    "at": "ONE NUMBER NUMBER",
    "same": "ONE ONE",
    "area": "ONE COLOUR",
    "leaves": "ONE",
    "beyond": "ONE CODE SIDE",
    "lands": "ONE",
    "steps": "ONE NUMBER NUMBER NUMBER NUMBER",
    "rings": "ONE NUMBER NUMBER",
}


def words_of(row):
    if not isinstance(row, str):
        raise NoRow("no text")
    words = row.split(" ")
    if words[0] not in FORMS:
        raise NoRow("no such first word")
    if len(words) != 1 + len(FORMS[words[0]].split(" ")):
        raise NoRow("too many words or too few")
    return words


def name_of(word):
    if not 1 <= len(word) <= MOST_LETTERS or not all([sign in LETTERS for sign in word]):
        raise NoName("no name")
    return word


def sheet_named(word, kept):
    if name_of(word) not in kept:
        raise NoName("no sheet stands by this name")
    return kept[word]


def code_of_word(word):
    if word == "-":
        return ""
    if word == "" or not is_code(word):
        raise NoCode("no code")
    return word


def colour_of_word(word):
    colour = colour_of(word)
    if colour is None:
        raise NoColour("no sign of a colour")
    return colour


def number_of_word(word):
    figures = word[1:] if word.startswith("-") else word
    if word == "-0" or not is_number_word(figures, MOST_FIGURES):
        raise NoNumber("no number")
    return int(word)


def side_of_word(word):
    need_side(word)
    return word


READ_BY = {
    "NEW": name_of,
    "CODE": code_of_word,
    "COLOUR": colour_of_word,
    "NUMBER": number_of_word,
    "SIDE": side_of_word,
}


def value_of(kind, word, kept):
    if kind == "ONE":
        return sheet_named(word, kept)
    if kind == "TEXT":
        return read(word)
    return READ_BY[kind](word)


def values_of(words, kept):
    kinds = FORMS[words[0]].split(" ")
    return [value_of(kind, word, kept) for kind, word in zip(kinds, words[1:])]


def made_plain(given):
    return plain(given[1], given[2])


def made_as_it_is(given):
    return given[1]


def made_part(given):
    return part_at(given[1], given[2])


def made_window(given):
    return window(given[1], given[2], given[3], given[4], given[5])


def made_over(given):
    return over(given[1], given[2], given[3])


def made_painted(given):
    return painted(given[0], given[1], given[2])


def made_mapped(given):
    return mapped(given[0], {given[1]: given[2]})


def made_turned(given):
    return turned_left(given[0])


def made_mirrored(given):
    return mirrored(given[0])


def made_swapped(given):
    return swapped(given[0])


def made_put(given):
    return put_in(given[0], given[1], given[2])


def made_laid(given):
    return laid(given[3], given[1], given[2], given[0])


def made_finer(given):
    return finer(given[0], given[1])


def made_coarser(given):
    return coarser(given[0], given[1])


MADE_BY = {
    "plain": made_plain,
    "read": made_as_it_is,
    "copy": made_as_it_is,
    "part": made_part,
    "window": made_window,
    "over": made_over,
    "paint": made_painted,
    "map": made_mapped,
    "turn": made_turned,
    "mirror": made_mirrored,
    "swap": made_swapped,
    "put": made_put,
    "lay": made_laid,
    "finer": made_finer,
    "coarser": made_coarser,
}


def told_text(given):
    return written(given[0])


def told_sign(given):
    return SIGNS[colour_at(given[0], given[1], given[2])]


def told_same(given):
    return "yes" if given[0] == given[1] else "no"


def told_area(given):
    return str(dict(areas(given[0])).get(given[1], 0))


def told_leaves(given):
    return str(len(leaves(given[0])))


def told_beyond(given):
    # The code without signs is never among them: a sheet that is one leaf has none beyond it.
    return " ".join(beyond(given[0], given[1], given[2]))


def told_lands(given):
    return str(len(lands(given[0])))


def told_steps(given):
    way = way_between(given[0], given[1], given[2], given[3], given[4])
    if way is None:
        return "none"
    return str(len(way) - 1)


def told_rings(given):
    return str(len(rings(given[0], given[1], given[2])))


TOLD_BY = {
    "show": told_text,
    "at": told_sign,
    "same": told_same,
    "area": told_area,
    "leaves": told_leaves,
    "beyond": told_beyond,
    "lands": told_lands,
    "steps": told_steps,
    "rings": told_rings,
}


class Desk:
    def __init__(self):
        self.kept = {}

    def say(self, row):
        words = words_of(row)
        given = values_of(words, self.kept)
        first = words[0]
        if first in TOLD_BY:
            return TOLD_BY[first](given)
        if first == "drop":
            self.kept.pop(words[1])
        else:
            self.kept[words[1]] = MADE_BY[first](given)
        return "ok"
