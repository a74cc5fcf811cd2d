"""Sheets written as one text or as rows of signs, and read again."""

from quartersheet.codes import width_of
from quartersheet.errors import NoText
from quartersheet.kinds import MOST_SMALL, is_level, need_small_level
from quartersheet.trees import gathered

FIGURES = "0123456789"
SIGNS = "0123456789abcdefghijklmnopqrstuvwxyz"


def is_number_word(word, most):
    # 0, or so many figures at most of which the first is no 0.
    if word == "0":
        return True
    return 1 <= len(word) <= most and word[0] != "0" and all([sign in FIGURES for sign in word])


def colour_of(word):
    if len(word) != 1 or word not in SIGNS:
        return None
    return SIGNS.index(word)


def written_tree(tree):
    if not isinstance(tree, tuple):
        return SIGNS[tree]
    return "+" + "".join([written_tree(part) for part in tree])


def written(sheet):
    return str(sheet[0]) + ":" + written_tree(sheet[1])


def tree_read(signs, at, level):
    # The tree that begins there, and where what stands behind it begins.
    sign = signs[at:at + 1]
    at = at + 1
    if sign == "+" and level > 0:
        parts = []
        for quarter in range(4):
            found = tree_read(signs, at, level - 1)
            parts.append(found[0])
            at = found[1]
        return (gathered(parts), at)
    colour = colour_of(sign)
    if colour is None:
        raise NoText("no tree, or one too deep for its level")
    return (colour, at)


def read(text):
    if not isinstance(text, str):
        raise NoText("no text")
    parts = text.partition(":")
    if not is_number_word(parts[0], 2) or not is_level(int(parts[0])):
        raise NoText("no level ahead of the tree")
    level = int(parts[0])
    found = tree_read(parts[2], 0, level)
    if found[1] != len(parts[2]):
        raise NoText("something stands behind the tree")
    return (level, found[0])


def rows_below(tree, wide):
    if not isinstance(tree, tuple):
        return [SIGNS[tree] * wide for y in range(wide)]
    parts = [rows_below(part, wide // 2) for part in tree]
    upper = [left + right for left, right in zip(parts[0], parts[1])]
    lower = [left + right for left, right in zip(parts[2], parts[3])]
    return upper + lower


def rows_of(sheet):
    need_small_level(sheet[0])
    return rows_below(sheet[1], width_of(sheet[0]))


def is_row(thing, wide):
    if not isinstance(thing, str) or len(thing) != wide:
        return False
    return all([sign in SIGNS for sign in thing])


def tree_of_rows(rows, x, y, wide):
    if wide == 1:
        return colour_of(rows[y][x])
    half = wide // 2
    parts = []
    for quarter in range(4):
        parts.append(tree_of_rows(rows, x + quarter % 2 * half, y + quarter // 2 * half, half))
    return gathered(parts)


def sheet_of_rows(rows):
    widths = [width_of(level) for level in range(MOST_SMALL + 1)]
    if not isinstance(rows, list) or len(rows) not in widths:
        raise NoText("no list of as many rows as a level from 0 to 6 tells")
    wide = len(rows)
    if not all([is_row(row, wide) for row in rows]):
        raise NoText("a row that is none")
    return (widths.index(wide), tree_of_rows(rows, 0, 0, wide))
