"""Rings: the sides of a land beyond which it ends, put together with the land at the right hand."""

from quartersheet.beyond import beyond_leaf
from quartersheet.codes import corner
from quartersheet.kinds import SIDES
from quartersheet.lands import alike_around, members_from
from quartersheet.leaves import leaf_at, leaves

# A way is a number from 0 to 3: to the right, downwards, to the left, upwards. With the land at the right hand
# each of SIDES is gone along by the way that has its index, and a turn to the right hand is one more.


def bare_parts(sheet, code, way, colours):
    # The parts of a side of a leaf beyond which none of its land lies, from the left to the right or downwards.
    square = corner(code, sheet[0])
    begin = square[way % 2]
    end = begin + square[2]
    others = beyond_leaf(sheet, code, SIDES[way])
    if len(others) == 0:
        return [(begin, end)]
    parts = []
    for other in others:
        if colours[other] != colours[code]:
            near = corner(other, sheet[0])
            start = near[way % 2]
            parts.append((max(begin, start), min(end, start + near[2])))
    return parts


def ends_of_part(square, way, begin, end):
    # The points from which and to which a part of a side is gone along.
    x = square[0]
    y = square[1]
    wide = square[2]
    if way == 0:
        return ((begin, y), (end, y))
    if way == 1:
        return ((x + wide, begin), (x + wide, end))
    if way == 2:
        return ((end, y + wide), (begin, y + wide))
    return ((x, end), (x, begin))


def pieces_round(sheet, codes):
    # Of each piece: the point at which it begins and its way, and for these the point at which it ends.
    colours = dict(leaves(sheet))
    pieces = {}
    for code in codes:
        square = corner(code, sheet[0])
        for way in range(4):
            for begin, end in bare_parts(sheet, code, way, colours):
                ends = ends_of_part(square, way, begin, end)
                pieces[(ends[0], way)] = ends[1]
    return pieces


def piece_behind(pieces, piece):
    point = pieces[piece]
    way = piece[1]
    # The right hand comes first: where two pieces go on from the point, that is the one round the same place.
    for onward in ((way + 1) % 4, way):
        if (point, onward) in pieces:
            return (point, onward)
    return (point, (way + 3) % 4)


def ring_from(pieces, first):
    ring = [first]
    piece = piece_behind(pieces, first)
    while piece != first:
        ring.append(piece)
        piece = piece_behind(pieces, piece)
    return ring


def rings(sheet, x, y):
    first = leaf_at(sheet, x, y)
    pieces = pieces_round(sheet, [code for code, other in members_from(alike_around(sheet), first)])
    gone = {}
    told = []
    # From above, then from the left: so each ring is first met at its first point, and rings come in their order.
    for piece in sorted(pieces, key=lambda one: (one[0][1], one[0][0])):
        if piece not in gone:
            ring = ring_from(pieces, piece)
            told.append([ring[at][0] for at in range(len(ring)) if ring[at][1] != ring[at - 1][1]])
            for part in ring:
                gone[part] = True
    return told
