"""The part of a sheet at a code, a sheet put in at a code, windows, and a sheet laid on another one."""

from quartersheet.codes import width_of
from quartersheet.errors import NoLevel
from quartersheet.kinds import need_code_within, need_colour, need_small_level
from quartersheet.trees import gathered, parted, planted, tree_at


def part_at(sheet, code):
    need_code_within(code, sheet[0])
    return (sheet[0] - len(code), tree_at(sheet[1], code))


def put_in(sheet, code, other):
    need_code_within(code, sheet[0])
    if other[0] != sheet[0] - len(code):
        raise NoLevel("the level of what is put in is not that of the square")
    return (sheet[0], planted(sheet[1], code, other[1]))


def quarter_with(wide, x, y, size):
    # The quarter in which a square of a wider one lies whole, or None where it lies in several.
    half = wide // 2
    across = x // half
    down = y // half
    if across != (x + size - 1) // half or down != (y + size - 1) // half:
        return None
    return down * 2 + across


def covered(behind, size, tree, wide, x, y):
    # The tree of a square of that size, behind, of which the square of the other tree
    # covers what they share; (x, y) is where the one behind begins as the covering one counts.
    if max(x, y) >= wide or min(x, y) + size <= 0:
        return behind
    if min(x, y) >= 0 and max(x, y) + size <= wide:
        if not isinstance(tree, tuple):
            return tree
        quarter = quarter_with(wide, x, y, size)
        if quarter is not None:
            half = wide // 2
            return covered(behind, size, tree[quarter], half, x % half, y % half)
    half = size // 2
    below = parted(behind)
    parts = []
    for quarter in range(4):
        parts.append(covered(below[quarter], half, tree, wide, x + quarter % 2 * half, y + quarter // 2 * half))
    return gathered(parts)


def window(sheet, x, y, level, colour):
    need_small_level(sheet[0])
    need_small_level(level)
    need_colour(colour)
    return (level, covered(colour, width_of(level), sheet[1], width_of(sheet[0]), x, y))


def laid(sheet, x, y, other):
    need_small_level(sheet[0])
    need_small_level(other[0])
    return (other[0], covered(other[1], width_of(other[0]), sheet[1], width_of(sheet[0]), -x, -y))
