"""Mixing: the colours of a sheet mapped, and sheets of one level mixed, laid over one another or chosen from."""

from quartersheet.kinds import need_colour
from quartersheet.sheets import need_one_level
from quartersheet.trees import gathered, parted


def blended(trees, rule):
    # The rule tells one colour of as many colours as there are trees.
    if not any([isinstance(tree, tuple) for tree in trees]):
        return rule(trees)
    parts = []
    for quarter in range(4):
        parts.append(blended([parted(tree)[quarter] for tree in trees], rule))
    return gathered(parts)


def mapped(sheet, turned):
    return (sheet[0], blended([sheet[1]], lambda colours: turned.get(colours[0], colours[0])))


def mixed(one, other, table):
    need_one_level([one, other])
    return (one[0], blended([one[1], other[1]], lambda colours: table.get(tuple(colours), colours[0])))


def over(lower, upper, clear):
    need_one_level([lower, upper])
    need_colour(clear)
    trees = [lower[1], upper[1]]
    return (lower[0], blended(trees, lambda colours: colours[0] if colours[1] == clear else colours[1]))


def chosen(mask, colour, one, other):
    need_one_level([mask, one, other])
    need_colour(colour)
    trees = [mask[1], one[1], other[1]]
    return (mask[0], blended(trees, lambda colours: colours[1] if colours[0] == colour else colours[2]))
