"""Lands: the leaves of one colour between which a way over common sides leads, and the rim of a land."""

from quartersheet.beyond import touches
from quartersheet.codes import common, width_of
from quartersheet.leaves import leaf_at, leaves


def alike_around(sheet):
    # For each leaf those of its own colour that touch it.
    colours = dict(leaves(sheet))
    around = {}
    for code in colours:
        around[code] = []
    for code, other in touches(sheet):
        if colours[code] == colours[other]:
            around[code].append(other)
            around[other].append(code)
    return around


def members_from(around, first):
    # Those of fewer steps stand ahead of those of more,
    # so each one's other is the last but one on a shortest way to it.
    members = [(first, None)]
    met = {first: True}
    at = 0
    while at < len(members):
        code = members[at][0]
        for other in around[code]:
            if other not in met:
                met[other] = True
                members.append((other, code))
        at = at + 1
    return members


def lands(sheet):
    around = alike_around(sheet)
    met = {}
    told = []
    for code, colour in leaves(sheet):
        if code not in met:
            members = members_from(around, code)
            told.append((colour, members))
            for member, other in members:
                met[member] = True
    return told


def rim(sheet, x, y):
    first = leaf_at(sheet, x, y)
    around = alike_around(sheet)
    sides = 0
    for code, other in members_from(around, first):
        sides = sides + 4 * width_of(sheet[0] - len(code))
        for near in around[code]:
            sides = sides - common(code, near, sheet[0])
    return sides
