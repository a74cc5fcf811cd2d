"""Steps from leaf to leaf of a land, and the shortest ways from place to place."""

from quartersheet.lands import alike_around, members_from
from quartersheet.leaves import leaf_at


def steps_from(sheet, x, y):
    first = leaf_at(sheet, x, y)
    steps = {}
    for code, other in members_from(alike_around(sheet), first):
        steps[code] = 0 if other is None else steps[other] + 1
    return sorted(steps.items())


def way_between(sheet, x, y, to_x, to_y):
    first = leaf_at(sheet, x, y)
    last = leaf_at(sheet, to_x, to_y)
    # From the last one on, so that each leaf's other is the next one on the way to it.
    onward = dict(members_from(alike_around(sheet), last))
    if first not in onward:
        return None
    way = [first]
    while way[-1] != last:
        way.append(onward[way[-1]])
    return way
