"""Sheets: what is one, plain ones, four joined to one, one parted into four, the colour at a place."""

from quartersheet.codes import code_at
from quartersheet.errors import NoLevel
from quartersheet.kinds import MOST, is_level, need_colour, need_level
from quartersheet.trees import gathered, is_tree, parted, tree_at


def need_one_level(sheets):
    level = sheets[0][0]
    if any([sheet[0] != level for sheet in sheets]):
        raise NoLevel("the sheets are not of one level")


def is_sheet(thing):
    if not isinstance(thing, tuple) or len(thing) != 2:
        return False
    return is_level(thing[0]) and is_tree(thing[1], thing[0])


def plain(level, colour):
    need_level(level)
    need_colour(colour)
    return (level, colour)


def joined(a, b, c, d):
    need_one_level([a, b, c, d])
    if a[0] == MOST:
        raise NoLevel("there is no level above that of the sheets")
    return (a[0] + 1, gathered([a[1], b[1], c[1], d[1]]))


def quarters(sheet):
    if sheet[0] == 0:
        raise NoLevel("a sheet of one place has no quarters")
    return tuple([(sheet[0] - 1, tree) for tree in parted(sheet[1])])


def colour_at(sheet, x, y):
    return tree_at(sheet[1], code_at(x, y, sheet[0]))
