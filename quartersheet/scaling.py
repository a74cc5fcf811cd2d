"""Sheets made finer and coarser."""

from quartersheet.errors import NoLevel
from quartersheet.kinds import MOST, is_whole
from quartersheet.leaves import areas
from quartersheet.trees import gathered


def need_number_to(number, most):
    if not is_whole(number) or not 0 <= number <= most:
        raise NoLevel("no whole number by which the level can be changed")


def finer(sheet, number):
    need_number_to(number, MOST - sheet[0])
    # Each square stays the same quarter of quarters; only its places have become more.
    return (sheet[0] + number, sheet[1])


def most_frequent(sheet):
    # The lowest colour stands first, and of several with as many places max takes the first one.
    return max(areas(sheet), key=lambda area: area[1])[0]


def coarser_tree(tree, level, number):
    if not isinstance(tree, tuple):
        return tree
    if level == number:
        return most_frequent((level, tree))
    return gathered([coarser_tree(part, level - 1, number) for part in tree])


def coarser(sheet, number):
    need_number_to(number, sheet[0])
    return (sheet[0] - number, coarser_tree(sheet[1], sheet[0], number))
