"""Painting a square of a sheet, and the first place at which two sheets differ."""

from quartersheet.codes import corner
from quartersheet.kinds import need_code_within, need_colour
from quartersheet.sheets import need_one_level
from quartersheet.trees import parted, planted


def painted(sheet, code, colour):
    need_code_within(code, sheet[0])
    need_colour(colour)
    return (sheet[0], planted(sheet[1], code, colour))


def first_unlike(one, other):
    if not isinstance(one, tuple) and not isinstance(other, tuple):
        return None if one == other else ""
    ones = parted(one)
    others = parted(other)
    for quarter in range(4):
        code = first_unlike(ones[quarter], others[quarter])
        if code is not None:
            return str(quarter) + code
    return None


def unlike(one, other):
    need_one_level([one, other])
    code = first_unlike(one[1], other[1])
    if code is None:
        return None
    # The square differs at each of its places, and the upper left one has the first code.
    return corner(code, one[0])[:2]
