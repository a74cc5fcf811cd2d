"""What several test files need."""

import copy

from quartersheet import errors

TWELVE = (
    errors.NoLevel, errors.NoCode, errors.NoColour, errors.NoPlace, errors.NoSide, errors.NoLeaf,
    errors.Twice, errors.Gap, errors.NoText, errors.NoName, errors.NoNumber, errors.NoRow,
)

THIRTY = int("123456789012345678901234567890")


def nested(inmost, depth):
    thing = inmost
    for step in range(depth):
        thing = ([thing], (thing,), {"in": thing})[step % 3]
    return thing


# Neither a whole number nor a text.
ODD = [
    True, False, None, [], [0], ["0"], ["up"], (), (0,), ("0", "1"), ("up",), {}, {"0": 0}, {0: "up"},
    nested(0, 60), nested("0", 60), nested(None, 59), list(range(4000)),
]
TEXTS = ["", "0", "3", "12", "40", "-1", "up", "text", " ", "\t", "\n"]
WHOLES = [-THIRTY, -1, 0, 1, 2, 12, 35, 36, 40, 41, THIRTY]

# Texts with one sign that is none of 0 to 3, at the first, a middle and the last place.
BAD_SIGNS = [
    "0123"[:at] + sign + "0123"[at:]
    for at in (0, 2, 4)
    for sign in ["4", "9", "/", "-", "+", "_", ".", "a", "O", "~", " ", "\t", "\n"]
]
NO_CODES = ODD + WHOLES + BAD_SIGNS + [
    " ", "\t", "\n", "4", "-", "up", "0" * 41, "3" * 41, "0" * 42, "0123" * 1000, "0" * 39 + "4", "4" + "0" * 39,
]
NO_LEVELS = ODD + TEXTS + [-THIRTY, -40, -1, 41, 42, THIRTY]
NO_SIDES = ODD + WHOLES + TEXTS[:6] + [
    "Up", "UP", "up ", " up", "upright", "u", "updown", "up\n", "\tleft", "right left", "top", "rightdownleft",
]
SIDES = ["up", "right", "down", "left"]


def codes_of_length(length):
    codes = [""]
    for step in range(length):
        codes = [code + sign for code in codes for sign in "0123"]
    return codes


def codes_up_to(length):
    return [code for signs in range(length + 1) for code in codes_of_length(signs)]


def assert_refused(test, refusal, deed, *given):
    before = copy.deepcopy(given)
    try:
        answer = deed(*given)
    except ValueError as error:
        test.assertIs(type(error), refusal, (deed, given))
        test.assertIsInstance(error, errors.SheetError)
        test.assertEqual([kind for kind in TWELVE if isinstance(error, kind)], [refusal])
    else:
        test.fail(f"{deed} of {given!r} was not refused but answered {answer!r}")
    test.assertEqual(given, before)
