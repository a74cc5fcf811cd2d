"""The leaves beyond a side of a leaf, and all touches of a sheet."""

from quartersheet.codes import CROSSINGS, beside
from quartersheet.errors import NoLeaf
from quartersheet.kinds import is_code
from quartersheet.leaves import leaves


def is_leaf(sheet, code):
    tree = sheet[1]
    for sign in code:
        if not isinstance(tree, tuple):
            return False
        tree = tree[int(sign)]
    return not isinstance(tree, tuple)


def leaves_along(tree, code, near):
    # The leaves at one side of a square, the side at which its two quarters near lie.
    if not isinstance(tree, tuple):
        return [code]
    row = []
    for sign in near:
        row.extend(leaves_along(tree[int(sign)], code + sign, near))
    return row


def beyond_leaf(sheet, code, side):
    # What is no side is refused by beside.
    other = beside(code, side)
    if other is None:
        return []
    tree = sheet[1]
    for signs in range(len(other)):
        # A leaf that holds the square beside: it is wider, so it is the only one there.
        if not isinstance(tree, tuple):
            return [other[:signs]]
        tree = tree[int(other[signs])]
    # The quarters from which a step to this side stays within their square
    # are just those that one comes to by such a step from the square before it.
    return leaves_along(tree, other, CROSSINGS[side][1])


def beyond(sheet, code, side):
    if not is_code(code) or not is_leaf(sheet, code):
        raise NoLeaf("no code of a leaf of the sheet")
    return beyond_leaf(sheet, code, side)


def touches(sheet):
    told = []
    for code, colour in leaves(sheet):
        # Each two are met once, from the left or the upper one, whose code always comes first.
        for side in ("right", "down"):
            told.extend([(code, other) for other in beyond_leaf(sheet, code, side)])
    return sorted(told)
