"""Leaves: the squares of one colour of a sheet, the sheet that a cover tells, and areas."""

from quartersheet.codes import code_at, holds, width_of
from quartersheet.errors import Gap, Twice
from quartersheet.kinds import QUARTERS, need_code_within, need_colour, need_level
from quartersheet.trees import gathered


def leaves_below(tree, code):
    if not isinstance(tree, tuple):
        return [(code, tree)]
    row = []
    for quarter in range(4):
        row.extend(leaves_below(tree[quarter], code + str(quarter)))
    return row


def leaves(sheet):
    return leaves_below(sheet[1], "")


def leaf_at(sheet, x, y):
    code = code_at(x, y, sheet[0])
    tree = sheet[1]
    signs = 0
    while isinstance(tree, tuple):
        tree = tree[int(code[signs])]
        signs = signs + 1
    return code[:signs]


def need_apart(codes):
    # In their order all codes that a code holds stand straight behind it.
    in_order = sorted(codes)
    for at in range(1, len(in_order)):
        if holds(in_order[at - 1], in_order[at]):
            raise Twice("a place lies in two squares")


def tree_of(cover, signs):
    # The cover of one square, whose code has that many signs; no two of its squares share a place.
    if len(cover) == 0:
        raise Gap("a place lies in no square")
    if len(cover[0][0]) == signs:
        return cover[0][1]
    parts = []
    for sign in QUARTERS:
        part = [leaf for leaf in cover if leaf[0][signs] == sign]
        parts.append(tree_of(part, signs + 1))
    return gathered(parts)


def sheet_of(level, cover):
    need_level(level)
    for code, colour in cover:
        need_code_within(code, level)
        need_colour(colour)
    need_apart([code for code, colour in cover])
    return (level, tree_of(cover, 0))


def ends_in_four(row):
    code = row[-1][0]
    colour = row[-1][1]
    return row[-4:] == [(code[:-1] + sign, colour) for sign in QUARTERS]


def settled(cover):
    row = []
    for leaf in cover:
        row.append(leaf)
        while ends_in_four(row):
            whole = (row[-1][0][:-1], row[-1][1])
            for step in range(4):
                row.pop()
            row.append(whole)
    return row


def areas(sheet):
    places = {}
    for code, colour in leaves(sheet):
        wide = width_of(sheet[0] - len(code))
        places[colour] = places.get(colour, 0) + wide * wide
    return sorted(places.items())
