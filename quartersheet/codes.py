"""Codes of squares: where they lie, what is beside them, their numbers, what two have in common."""

from quartersheet.errors import NoCode, NoPlace
from quartersheet.kinds import MOST, is_whole, need_code, need_level, need_side

# For each side: what the signs 0 to 3 become beyond it, and the signs from which
# that step stays within the square of which they are quarters.
CROSSINGS = {
    "up": ("2301", "23"),
    "right": ("1032", "02"),
    "down": ("2301", "01"),
    "left": ("1032", "13"),
}


def width_of(level):
    wide = 1
    for step in range(level):
        wide = wide * 2
    return wide


def need_place(x, y, level):
    wide = width_of(level)
    for along in (x, y):
        if not is_whole(along) or not 0 <= along < wide:
            raise NoPlace("no place of the sheet")


def corner(code, level):
    need_code(code)
    need_level(level, len(code))
    x = 0
    y = 0
    for sign in code:
        quarter = int(sign)
        x = x * 2 + quarter % 2
        y = y * 2 + quarter // 2
    wide = width_of(level - len(code))
    return (x * wide, y * wide, wide)


def code_at(x, y, level):
    need_level(level)
    need_place(x, y, level)
    code = ""
    for step in range(level):
        code = str(y % 2 * 2 + x % 2) + code
        x = x // 2
        y = y // 2
    return code


def beside(code, side):
    need_code(code)
    need_side(side)
    crossing = CROSSINGS[side]
    behind = ""
    for at in range(len(code) - 1, -1, -1):
        sign = code[at]
        behind = crossing[0][int(sign)] + behind
        if sign in crossing[1]:
            return code[:at] + behind
    return None


def holds(code, other):
    need_code(code)
    need_code(other)
    return other.startswith(code)


def numbered(code):
    need_code(code)
    number = 1
    for sign in code:
        number = number * 4 + int(sign)
    return number


def code_of(number):
    if not is_whole(number):
        raise NoCode("no number of a code")
    code = ""
    while number >= 4:
        code = str(number % 4) + code
        number = number // 4
    if number != 1 or len(code) > MOST:
        raise NoCode("no number of a code")
    return code


def overlap(start, wide, other_start, other_wide):
    # Below 0 where a gap lies between the two, 0 where they just meet.
    return min(start + wide, other_start + other_wide) - max(start, other_start)


def common(code, other, level):
    # Both codes ahead of the level, which corner looks at.
    need_code(code)
    need_code(other)
    one = corner(code, level)
    two = corner(other, level)
    across = overlap(one[0], one[2], two[0], two[2])
    down = overlap(one[1], one[2], two[1], two[2])
    # Squares that just meet one way touch along what they share the other way;
    # where they meet both ways they have a corner alone in common, so 0.
    if min(across, down) != 0:
        return 0
    return max(across, down)
