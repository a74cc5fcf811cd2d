"""Whole numbers, levels, colours, sides and codes: what is one, and the refusal of what is none."""

from quartersheet.errors import NoCode, NoColour, NoLevel, NoSide

MOST = 40
MOST_SMALL = 6
LAST_COLOUR = 35
SIDES = ("up", "right", "down", "left")
QUARTERS = "0123"


def is_whole(thing):
    # To Python a truth is an int as well, but here it is no whole number.
    return isinstance(thing, int) and not isinstance(thing, bool)


def is_level(thing):
    return is_whole(thing) and 0 <= thing <= MOST


def is_colour(thing):
    return is_whole(thing) and 0 <= thing <= LAST_COLOUR


def is_side(thing):
    return thing in SIDES


def is_code(thing):
    if not isinstance(thing, str) or len(thing) > MOST:
        return False
    return all([sign in QUARTERS for sign in thing])


def need_level(level, least=0):
    if not is_level(level) or level < least:
        raise NoLevel("no level, or one too low for the code")


def need_small_level(level):
    if not is_level(level) or level > MOST_SMALL:
        raise NoLevel("no level from 0 to 6")


def need_code(code):
    if not is_code(code):
        raise NoCode("no code")


def need_code_within(code, level):
    if not is_code(code) or len(code) > level:
        raise NoCode("no code, or one of too many signs for the level")


def need_colour(colour):
    if not is_colour(colour):
        raise NoColour("no colour")


def need_side(side):
    if not is_side(side):
        raise NoSide("no side")
