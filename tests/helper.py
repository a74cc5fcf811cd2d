"""What several test files need."""

import copy
import random
import time

from quartersheet import errors

TWELVE = (
    errors.NoLevel, errors.NoCode, errors.NoColour, errors.NoPlace, errors.NoSide, errors.NoLeaf,
    errors.Twice, errors.Gap, errors.NoText, errors.NoName, errors.NoNumber, errors.NoRow,
)

THIRTY = int("123456789012345678901234567890")


def nested(inmost, depth):
    thing = inmost
    for step in range(depth):
        thing = ([thing], (thing,), {"in": thing})[step % 3]
    return thing


# Neither a whole number nor a text.
ODD = [
    True, False, None, [], [0], ["0"], ["up"], (), (0,), ("0", "1"), ("up",), {}, {"0": 0}, {0: "up"},
    nested(0, 60), nested("0", 60), nested(None, 59), list(range(4000)),
]
TEXTS = ["", "0", "3", "12", "40", "-1", "up", "text", " ", "\t", "\n"]
WHOLES = [-THIRTY, -1, 0, 1, 2, 12, 35, 36, 40, 41, THIRTY]

# One word each that is no text of a sheet; then texts of several words and rows.
NO_TEXT_WORDS = [
    "", "0", "2", "+", ":", "::", "0:", "1:", "40:", ":0", ":+0123", "00:0", "01:0", "07:0", "040:0", "000:0", "41:0",
    "42:0", "50:0", "99:0", "100:0", "400:0", "1" * 30 + ":0", "9" * 4000 + ":0", "-1:0", "+1:0", "-0:0", "1-:0",
    "1_0:0", "1.0:0", "a:0", "1a:0", "0x1:0", "1::0", "1:0:", "1:0:0", "1:+01:23", "1;0", "10", "1+0123", "0:+0123",
    "0:+0000", "1:++00000123", "1:+0+0000000", "2:+012++0123012", "1:+", "1:+0", "1:+012", "2:++0123", "2:++012301",
    "2:+012+012", "0:00", "1:00", "1:+01230", "1:+0123+0123", "2:+0+10012b0", "0:A", "1:Z", "1:+01B3", "1:-", "1:*",
    "1:+01-3", "1:+01~3", "1:+01,3", "1:(0,1,2,3)", "40:" + "+" * 41 + "0" * 124, "40:" + "+" * 40, "40:" + "+" * 4000,
    "6:" + "0" * 4000, "0:0;", "1:1.",
]
NO_TEXTS = NO_TEXT_WORDS + [
    " ", " 1:0", "1 :0", "1: 0", "1:0 ", "1:+01 23", "1:+ 0123", "1:+012 ", "0: ", "\t1:0", "1:0\n", "\n1:0",
    "1:+012\n3",
]

# Texts with one sign that is none of 0 to 3, at the first, a middle and the last place.
BAD_SIGNS = [
    "0123"[:at] + sign + "0123"[at:]
    for at in (0, 2, 4)
    for sign in ["4", "9", "/", "-", "+", "_", ".", "a", "O", "~", " ", "\t", "\n"]
]
NO_CODES = ODD + WHOLES + BAD_SIGNS + [
    " ", "\t", "\n", "4", "-", "up", "0" * 41, "3" * 41, "0" * 42, "0123" * 1000, "0" * 39 + "4", "4" + "0" * 39,
]
NO_LEVELS = ODD + TEXTS + [-THIRTY, -40, -1, 41, 42, THIRTY]
NO_SIDES = ODD + WHOLES + TEXTS[:6] + [
    "Up", "UP", "up ", " up", "upright", "u", "updown", "up\n", "\tleft", "right left", "top", "rightdownleft",
]
SIDES = ["up", "right", "down", "left"]


def codes_of_length(length):
    codes = [""]
    for step in range(length):
        codes = [code + sign for code in codes for sign in "0123"]
    return codes


def codes_up_to(length):
    return [code for signs in range(length + 1) for code in codes_of_length(signs)]


def assert_refused(test, refusal, deed, *given):
    before = copy.deepcopy(given)
    try:
        answer = deed(*given)
    except ValueError as error:
        test.assertIs(type(error), refusal, (deed, given))
        test.assertIsInstance(error, errors.SheetError)
        test.assertEqual([kind for kind in TWELVE if isinstance(error, kind)], [refusal])
    else:
        test.fail(f"{deed} of {given!r} was not refused but answered {answer!r}")
    test.assertEqual(given, before)


NO_COLOURS = ODD + TEXTS + [-THIRTY, -35, -1, 36, 37, 40, 41, THIRTY]


def no_places(level):
    wide = 2 ** level
    return ODD + TEXTS + [-THIRTY, -wide, -1, wide, wide + 1, THIRTY]


def assert_needs_a_place(test, deed, sheets):
    for sheet in sheets:
        for thing in no_places(sheet[0]):
            assert_refused(test, errors.NoPlace, deed, sheet, thing, 0)
            assert_refused(test, errors.NoPlace, deed, sheet, 0, thing)
            assert_refused(test, errors.NoPlace, deed, sheet, thing, thing)


def answer_of(test, deed, *given):
    # The answer; and what was handed in must stay as it was.
    before = copy.deepcopy(given)
    answer = deed(*given)
    test.assertEqual(given, before)
    return answer


def lists_within(thing):
    # The thing itself, where it is a list, and all lists that lie in it, also within tuples.
    found = [thing] if isinstance(thing, list) else []
    for part in thing if isinstance(thing, (list, tuple)) else []:
        found += lists_within(part)
    return found


def assert_own_list(test, deed, *given):
    # What is done to a list that was told changes neither what was handed in nor what is told later.
    before = copy.deepcopy(given)
    first = deed(*given)
    test.assertIs(type(first), list)
    kept = copy.deepcopy(first)
    for told in lists_within(first):
        told.append(("spoilt", 99))
        told[0] = None
    test.assertEqual(given, before)
    second = deed(*given)
    test.assertEqual(second, kept)
    for told in lists_within(second):
        told.clear()
    test.assertEqual(given, before)
    test.assertEqual(deed(*given), kept)


def answer_in_short(test, deed, *given):
    # Far longer than it should take, but far shorter than what compares each two of some thousand leaves.
    begin = time.process_time()
    answer = deed(*given)
    test.assertLess(time.process_time() - begin, 5)
    return answer


# A plain picture is a dict from places (x, y) to colours; what follows knows the document's words
# alone, nothing of the program, and goes place by place.

def places_of(code, level):
    # Halves are chosen anew at each sign.
    left, top, wide = 0, 0, 2 ** level
    for sign in code:
        wide //= 2
        left += wide if sign in "13" else 0
        top += wide if sign in "23" else 0
    return [(x, y) for x in range(left, left + wide) for y in range(top, top + wide)]


def place_of(code):
    # The place that has this code, in a sheet whose level is the number of its signs.
    x, y = 0, 0
    for sign in code:
        x, y = 2 * x + (sign in "13"), 2 * y + (sign in "23")
    return x, y


def picture_of(sheet):
    level, tree = sheet
    picture = {}
    for place in places_of("", level):
        part, (x, y) = tree, place
        wide = 2 ** level
        while isinstance(part, tuple):
            wide //= 2
            part = part[(y >= wide) * 2 + (x >= wide)]
            x, y = x % wide, y % wide
        picture[place] = part
    return picture


def sheet_from(level, picture):
    def tree_of_square(code):
        colours = {picture[place] for place in places_of(code, level)}
        if len(colours) == 1:
            return colours.pop()
        return tuple(tree_of_square(code + sign) for sign in "0123")
    return (level, tree_of_square(""))


def leaves_from(sheet):
    # A square is a leaf where it has one colour and the square of which it is a quarter has several.
    level = sheet[0]
    picture = picture_of(sheet)
    row = []
    for code in codes_up_to(level):
        colours = {picture[place] for place in places_of(code, level)}
        around = {picture[place] for place in places_of(code[:-1], level)}
        if len(colours) == 1 and (code == "" or len(around) > 1):
            row.append((code, colours.pop()))
    return sorted(row)


BY_SIDES = {"up": (0, -1), "right": (1, 0), "down": (0, 1), "left": (-1, 0)}


def places_beside(place):
    return {side: (place[0] + across, place[1] + down) for side, (across, down) in BY_SIDES.items()}


def leaf_by_place(sheet):
    return {place: code for code, colour in leaves_from(sheet) for place in places_of(code, sheet[0])}


def contacts(sheet):
    # For (code, side, other) of leaves: how many places of the one have the other beyond that side.
    leaf_of = leaf_by_place(sheet)
    found = {}
    for place, code in leaf_of.items():
        for side, near in places_beside(place).items():
            if near in leaf_of and leaf_of[near] != code:
                found[(code, side, leaf_of[near])] = found.get((code, side, leaf_of[near]), 0) + 1
    return found


def land_with(picture, place):
    # All places to which a way of one colour leads.
    land, left = {place}, [place]
    while left:
        for near in places_beside(left.pop()).values():
            if near in picture and near not in land and picture[near] == picture[place]:
                land.add(near)
                left.append(near)
    return land


def lands_from(sheet):
    # For each land its colour and the codes of its leaves in their order.
    picture = picture_of(sheet)
    leaf_of = leaf_by_place(sheet)
    left, found = set(picture), []
    while left:
        place = min(left)
        land = land_with(picture, place)
        left -= land
        found.append((sorted({leaf_of[other] for other in land}), picture[place]))
    return [(colour, codes) for codes, colour in sorted(found)]


def rim_from(picture, place):
    land = land_with(picture, place)
    return sum(near not in land for one in land for near in places_beside(one).values())


def steps_between_leaves(sheet):
    # For each leaf and each leaf of its land: the steps, as the waves of ever one step more come to them.
    colours = dict(leaves_from(sheet))
    near = {code: [] for code in colours}
    for code, side, other in contacts(sheet):
        if colours[code] == colours[other]:
            near[code].append(other)
    found = {}
    for first in colours:
        wave, steps, found[first] = [first], 0, {}
        while wave:
            for code in wave:
                found[first][code] = steps
            wave = sorted({other for code in wave for other in near[code] if other not in found[first]})
            steps += 1
    return found


def sides_round(land):
    # The sides of single places beyond which no place of the land lies: from where, to where, round which place.
    sides = []
    for x, y in sorted(land):
        corners = [(x, y), (x + 1, y), (x + 1, y + 1), (x, y + 1)]
        for at, near in enumerate(places_beside((x, y)).values()):
            if near not in land:
                sides.append((corners[at], corners[(at + 1) % 4], (x, y)))
    return sides


def by_rows(point):
    return (point[1], point[0])


def rings_from(picture, place):
    sides = sides_round(land_with(picture, place))
    going = {}
    for side in sides:
        going.setdefault(side[0], []).append(side)
    rings = []
    while sides:
        ring = []
        side = sides[0]
        while side not in ring:
            ring.append(side)
            ahead = going[side[1]]
            side = ahead[0] if len(ahead) == 1 else [one for one in ahead if one[2] == side[2]][0]
        sides = [one for one in sides if one not in ring]
        ways = [(to[0] - at[0], to[1] - at[1]) for at, to, around in ring]
        points = [ring[at][0] for at in range(len(ring)) if ways[at] != ways[at - 1]]
        first = points.index(min(points, key=by_rows))
        rings.append(points[first:] + points[:first])
    return sorted(rings, key=lambda ring: by_rows(ring[0]))


def coarsened(level, picture, number):
    # The picture of a level less by the number.
    size, found = 2 ** number, {}
    for x, y in places_of("", level - number):
        colours = [picture[(x * size + i, y * size + j)] for i in range(size) for j in range(size)]
        found[(x, y)] = min(set(colours), key=lambda colour: (-colours.count(colour), colour))
    return found


ALL_SIGNS = "0123456789abcdefghijklmnopqrstuvwxyz"


def text_from(sheet):
    level, tree = sheet

    def signs_of(part):
        return "+" + "".join(signs_of(quarter) for quarter in part) if isinstance(part, tuple) else ALL_SIGNS[part]
    return f"{level}:{signs_of(tree)}"


def drawn(level, seed, colours=3, strokes=4):
    # Squares of several sizes, drawn over one another, on ground 0; the same ones for one seed.
    chance = random.Random(seed)
    picture = {place: 0 for place in places_of("", level)}
    for stroke in range(strokes):
        code = "".join(chance.choice("0123") for sign in range(chance.randint(0, level)))
        colour = chance.randrange(colours)
        for place in places_of(code, level):
            picture[place] = colour
    return sheet_from(level, picture)


def speckled(level, seed, colours=2):
    chance = random.Random(seed)
    return sheet_from(level, {place: chance.randrange(colours) for place in places_of("", level)})


def small_sheets(most=4):
    sheets = []
    for level in range(most + 1):
        sheets += [(level, 0), (level, 35)]
        sheets += [drawn(level, seed, 3, 2 + 3 * seed) for seed in range(4)]
        sheets += [speckled(level, 9)]
    return sheets


def pairs_of_small_sheets(most=4):
    return [(one, other) for one in small_sheets(most) for other in small_sheets(most) if one[0] == other[0]]


def from_rows(*rows):
    # A picture by hand: colours 0 to 9, one text for each y.
    level = len(rows).bit_length() - 1
    return sheet_from(level, {(x, y): int(rows[y][x]) for x, y in places_of("", level)})


# Lands within lands, of two colours by turns.
WITHIN = from_rows(
    "00000000",
    "01111110",
    "01000010",
    "01011010",
    "01011010",
    "01000010",
    "01111110",
    "00000000",
)


def spot(level, code, colour, ground):
    # One square on a ground of another colour, at any level.
    tree = colour
    for sign in reversed(code):
        tree = tuple(tree if quarter == sign else ground for quarter in "0123")
    return (level, tree)


def snake():
    # Level 6: a way of colour 1, one place wide, to and fro through all the sheet, with rows of 0 between;
    # each of the 4096 places is a leaf.
    rows = []
    for y in range(64):
        bend = 63 if y % 4 == 1 else 0
        rows.append("".join("1" if y % 2 == 0 or x == bend else "0" for x in range(64)))
    return from_rows(*rows)


def chequered(level, depth, first, second):
    # 4 ** depth leaves, each of another colour than those at its sides.
    tree = (first, second, second, first)
    for step in range(depth - 1):
        tree = (tree, tree, tree, tree)
    return (level, tree)
