"""Rows of leaves mapped, mixed and turned to the left without their sheets."""

from quartersheet.leaves import settled

# What the signs 0 to 3 become where the sheet is turned to the left.
TO_THE_LEFT = "2031"


def row_mapped(row, turned):
    return settled([(code, turned.get(colour, colour)) for code, colour in row])


def is_last_within(code, other):
    # Of the squares within another one, in their order, the last one lies in the lower right corner.
    return code[len(other):].strip("3") == ""


def row_mixed(row, other, table):
    cover = []
    at = 0
    other_at = 0
    while at < len(row):
        one_leaf = row[at]
        other_leaf = other[other_at]
        # Both begin at one place, so the longer code is the one whose square lies in the other one's.
        code = max(one_leaf[0], other_leaf[0], key=len)
        cover.append((code, table.get((one_leaf[1], other_leaf[1]), one_leaf[1])))
        if is_last_within(code, one_leaf[0]):
            at = at + 1
        if is_last_within(code, other_leaf[0]):
            other_at = other_at + 1
    return settled(cover)


def row_turned(row):
    turned = []
    for code, colour in row:
        turned.append(("".join([TO_THE_LEFT[int(sign)] for sign in code]), colour))
    return sorted(turned)
