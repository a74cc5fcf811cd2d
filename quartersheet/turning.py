"""Sheets turned to the left, mirrored and swapped."""

# For each quarter of the new square the one of the old square that comes there.
LEFT = (1, 3, 0, 2)
MIRROR = (1, 0, 3, 2)
SWAP = (0, 2, 1, 3)


def rearranged(tree, order):
    if not isinstance(tree, tuple):
        return tree
    return tuple([rearranged(tree[quarter], order) for quarter in order])


def turned_left(sheet):
    return (sheet[0], rearranged(sheet[1], LEFT))


def mirrored(sheet):
    return (sheet[0], rearranged(sheet[1], MIRROR))


def swapped(sheet):
    return (sheet[0], rearranged(sheet[1], SWAP))
