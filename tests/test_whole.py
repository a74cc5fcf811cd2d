"""Longer rows of deeds at a desk: against pictures kept place by place, and at all levels against the functions."""

import random
import unittest

from quartersheet.beyond import beyond
from quartersheet.cutting import laid, part_at, put_in, window
from quartersheet.desk import Desk
from quartersheet.errors import NoCode, NoLeaf, NoLevel, NoName, NoPlace, SheetError
from quartersheet.lands import lands
from quartersheet.leaves import areas, leaves
from quartersheet.mixing import mapped, over
from quartersheet.painting import painted
from quartersheet.rings import rings
from quartersheet.scaling import coarser, finer
from quartersheet.sheets import colour_at, is_sheet, plain
from quartersheet.steps import way_between
from quartersheet.texts import read, written
from quartersheet.turning import mirrored, swapped, turned_left
from tests.helper import (
    ALL_SIGNS, SIDES, coarsened, contacts, drawn, lands_from, leaf_by_place, leaves_from, picture_of, places_of,
    rings_from, sheet_from, speckled, steps_between_leaves, text_from,
)

NAMES = ["a", "b", "c", "dd", "eightabc"]


class Refused(Exception):
    def __init__(self, kind):
        super().__init__(kind)
        self.kind = kind


def need(right, kind):
    if not right:
        raise Refused(kind)


class Pictures:
    """A desk of plain pictures: for each name a level and the colour at each place."""

    def __init__(self):
        self.kept = {}

    def say(self, first, *given):
        return getattr(self, "say_" + first)(*given)

    def keep(self, name, level, picture):
        self.kept[name] = (level, picture)
        return "ok"

    def moved(self, name, to_place):
        level, picture = self.kept[name]
        return self.keep(name, level, {to_place(x, y, 2 ** level - 1): picture[(x, y)] for x, y in picture})

    def say_plain(self, new, level, colour):
        need(0 <= level <= 40, NoLevel)
        return self.keep(new, level, {place: colour for place in places_of("", level)})

    def say_read(self, new, sheet):
        return self.keep(new, sheet[0], picture_of(sheet))

    def say_copy(self, new, one):
        return self.keep(new, *self.kept[one])

    def say_drop(self, one):
        self.kept.pop(one)
        return "ok"

    def say_part(self, new, one, code):
        level, picture = self.kept[one]
        need(len(code) <= level, NoCode)
        left, top = min(places_of(code, level))
        part = {(x - left, y - top): picture[(x, y)] for x, y in places_of(code, level)}
        return self.keep(new, level - len(code), part)

    def say_window(self, new, one, x, y, level, colour):
        need(0 <= level <= 6, NoLevel)
        picture = self.kept[one][1]
        seen = {(i, j): picture.get((x + i, y + j), colour) for i, j in places_of("", level)}
        return self.keep(new, level, seen)

    def say_over(self, new, lower, upper, clear):
        (level, below), (other_level, above) = self.kept[lower], self.kept[upper]
        need(level == other_level, NoLevel)
        found = {place: below[place] if above[place] == clear else above[place] for place in below}
        return self.keep(new, level, found)

    def say_paint(self, one, code, colour):
        level, picture = self.kept[one]
        need(len(code) <= level, NoCode)
        return self.keep(one, level, {**picture, **{place: colour for place in places_of(code, level)}})

    def say_map(self, one, colour, to_colour):
        level, picture = self.kept[one]
        found = {place: to_colour if here == colour else here for place, here in picture.items()}
        return self.keep(one, level, found)

    def say_turn(self, one):
        return self.moved(one, lambda x, y, last: (y, last - x))

    def say_mirror(self, one):
        return self.moved(one, lambda x, y, last: (last - x, y))

    def say_swap(self, one):
        return self.moved(one, lambda x, y, last: (y, x))

    def say_put(self, one, code, other):
        (level, picture), (other_level, inner) = self.kept[one], self.kept[other]
        need(len(code) <= level, NoCode)
        need(other_level == level - len(code), NoLevel)
        left, top = min(places_of(code, level))
        return self.keep(one, level, {**picture, **{(x + left, y + top): inner[(x, y)] for x, y in inner}})

    def say_lay(self, one, x, y, other):
        (level, picture), (other_level, upper) = self.kept[one], self.kept[other]
        laid_there = {(x + i, y + j): colour for (i, j), colour in upper.items() if (x + i, y + j) in picture}
        return self.keep(one, level, {**picture, **laid_there})

    def say_finer(self, one, number):
        level, picture = self.kept[one]
        need(0 <= number <= 40 - level, NoLevel)
        size = 2 ** number
        found = {(x, y): picture[(x // size, y // size)] for x, y in places_of("", level + number)}
        return self.keep(one, level + number, found)

    def say_coarser(self, one, number):
        level, picture = self.kept[one]
        need(0 <= number <= level, NoLevel)
        return self.keep(one, level - number, coarsened(level, picture, number))

    def say_show(self, one):
        return text_from(sheet_from(*self.kept[one]))

    def say_at(self, one, x, y):
        need((x, y) in self.kept[one][1], NoPlace)
        return ALL_SIGNS[self.kept[one][1][(x, y)]]

    def say_same(self, one, other):
        return "yes" if self.kept[one] == self.kept[other] else "no"

    def say_area(self, one, colour):
        return str(list(self.kept[one][1].values()).count(colour))

    def say_leaves(self, one):
        return str(len(leaves_from(sheet_from(*self.kept[one]))))

    def say_beyond(self, one, code, side):
        sheet = sheet_from(*self.kept[one])
        need(code in dict(leaves_from(sheet)), NoLeaf)
        return " ".join(sorted(other for inner, at, other in contacts(sheet) if (inner, at) == (code, side)))

    def say_lands(self, one):
        return str(len(lands_from(sheet_from(*self.kept[one]))))

    def say_steps(self, one, x, y, to_x, to_y):
        need((x, y) in self.kept[one][1] and (to_x, to_y) in self.kept[one][1], NoPlace)
        sheet = sheet_from(*self.kept[one])
        leaf_of = leaf_by_place(sheet)
        return str(steps_between_leaves(sheet)[leaf_of[(x, y)]].get(leaf_of[(to_x, to_y)], "none"))

    def say_rings(self, one, x, y):
        need((x, y) in self.kept[one][1], NoPlace)
        return str(len(rings_from(self.kept[one][1], (x, y))))


def steps_of(way):
    return "none" if way is None else str(len(way) - 1)


class Sheets:
    """A desk that asks the functions themselves."""

    def __init__(self):
        self.kept = {}

    def say(self, first, *given):
        made = {
            "plain": lambda new, level, colour: plain(level, colour),
            "read": lambda new, sheet: sheet,
            "copy": lambda new, one: self.kept[one],
            "part": lambda new, one, code: part_at(self.kept[one], code),
            "window": lambda new, one, x, y, level, colour: window(self.kept[one], x, y, level, colour),
            "over": lambda new, lower, upper, clear: over(self.kept[lower], self.kept[upper], clear),
            "paint": lambda one, code, colour: painted(self.kept[one], code, colour),
            "map": lambda one, colour, to_colour: mapped(self.kept[one], {colour: to_colour}),
            "turn": lambda one: turned_left(self.kept[one]),
            "mirror": lambda one: mirrored(self.kept[one]),
            "swap": lambda one: swapped(self.kept[one]),
            "put": lambda one, code, other: put_in(self.kept[one], code, self.kept[other]),
            "lay": lambda one, x, y, other: laid(self.kept[other], x, y, self.kept[one]),
            "finer": lambda one, number: finer(self.kept[one], number),
            "coarser": lambda one, number: coarser(self.kept[one], number),
        }
        told = {
            "show": lambda one: written(self.kept[one]),
            "at": lambda one, x, y: ALL_SIGNS[colour_at(self.kept[one], x, y)],
            "same": lambda one, other: "yes" if self.kept[one] == self.kept[other] else "no",
            "area": lambda one, colour: str(dict(areas(self.kept[one])).get(colour, 0)),
            "leaves": lambda one: str(len(leaves(self.kept[one]))),
            "beyond": lambda one, code, side: " ".join(beyond(self.kept[one], code, side)),
            "lands": lambda one: str(len(lands(self.kept[one]))),
            "steps": lambda one, *places: steps_of(way_between(self.kept[one], *places)),
            "rings": lambda one, x, y: str(len(rings(self.kept[one], x, y))),
        }
        if first in told:
            return told[first](*given)
        if first == "drop":
            self.kept.pop(given[0])
        else:
            self.kept[given[0]] = made[first](*given)
        return "ok"


class Colour(int):
    """A colour, told from numbers: a row has its sign."""


def row_of(first, *given):
    words = [first]
    for thing in given:
        if isinstance(thing, tuple):
            words.append(text_from(thing))
        elif isinstance(thing, Colour):
            words.append(ALL_SIGNS[thing])
        else:
            words.append("-" if thing == "" else str(thing))
    return " ".join(words)


class Chooser:
    """Chooses deeds and questions, the same ones for one seed."""

    def __init__(self, seed, most):
        self.chance = random.Random(seed)
        self.most = most

    def code(self, level):
        signs = self.chance.choice([0, 1, level // 2, level, level, level + 1])
        return "".join(self.chance.choice("0123") for sign in range(min(signs, 40)))

    def colour(self):
        return Colour(self.chance.choice([0, 0, 1, 1, 2, 35]))

    def along(self, level):
        wide = 2 ** level
        return self.chance.choice([0, wide - 1, self.chance.randrange(wide), self.chance.randrange(wide),
                                   self.chance.randrange(-1, wide + 1)])

    def places(self, level, number):
        return [self.along(level) for at in range(number)]

    def sheet(self):
        level = self.chance.randint(0, min(self.most, 3))
        return self.chance.choice([drawn, speckled])(level, self.chance.random())

    def start(self, name):
        return self.chance.choice([
            ("plain", name, self.chance.randint(0, self.most), self.colour()), ("read", name, self.sheet()),
        ])

    def deed(self, levels):
        one, other = self.chance.choice(sorted(levels)), self.chance.choice(sorted(levels))
        new, level = self.chance.choice(NAMES), levels[one]
        alike = self.chance.choice([name for name in sorted(levels) if levels[name] == level])
        deeds = [
            ("copy", new, one), ("part", new, one, self.code(level)), ("over", new, one, alike, self.colour()),
            ("over", new, one, other, self.colour()), ("paint", one, self.code(level), self.colour()),
            ("paint", one, self.code(level), self.colour()), ("paint", one, self.code(level), self.colour()),
            ("map", one, self.colour(), self.colour()), ("turn", one), ("mirror", one), ("swap", one),
            ("put", one, self.code(level), other), ("put", one, "", alike), self.start(new),
            ("coarser", one, self.chance.randint(-1, min(level, 2) + 1)),
            ("finer", one, self.chance.randint(-1, min(self.most - level, 1))),
            ("put", one, "".join(self.chance.choice("0123") for sign in range(max(0, level - levels[other]))), other),
        ]
        if level <= 6:
            size = self.chance.randint(-1, min(self.most, 7))
            deeds.append(("window", new, one, *self.places(level, 2), size, self.colour()))
        if level <= 6 and levels[other] <= 6:
            deeds.append(("lay", one, *self.places(level, 2), other))
        if len(levels) > 2:
            deeds.append(("drop", one))
        return self.chance.choice(deeds)

    def questions(self, levels):
        one, other = self.chance.choice(sorted(levels)), self.chance.choice(sorted(levels))
        level = levels[one]
        return [
            ("show", one), ("at", one, *self.places(level, 2)), ("same", one, other), ("area", one, self.colour()),
            ("leaves", one), ("beyond", one, self.code(level), self.chance.choice(SIDES)), ("lands", one),
            ("steps", one, *self.places(level, 4)), ("rings", one, *self.places(level, 2)),
        ]


def answer_or_refusal(deed, *given):
    try:
        return deed(*given)
    except Refused as refused:
        return refused.kind
    except SheetError as error:
        return type(error)


class Whole(unittest.TestCase):
    def assert_deeds(self, model, seed, most, number):
        chooser, desk = Chooser(seed, most), Desk()
        for name in NAMES[:3]:
            self.assertEqual(desk.say(row_of(*self.told(model, chooser.start(name)))), "ok")
        levels = {name: model.kept[name][0] for name in model.kept}
        for at in range(number):
            questions = chooser.questions(levels)
            before = [self.asked(desk, model, question) for question in questions]
            deed = chooser.deed(levels)
            names = sorted(levels)
            shown = {name: desk.say("show " + name) for name in names}
            told = answer_or_refusal(desk.say, row_of(*deed))
            self.assertEqual(told, answer_or_refusal(model.say, *deed), deed)
            levels = {name: model.kept[name][0] for name in model.kept}
            changed = deed[1] if told == "ok" else None
            for name in NAMES:
                if name in levels:
                    text = desk.say("show " + name)
                    self.assertEqual(text, model.say("show", name), deed)
                    self.assertTrue(is_sheet(read(text)))
                    self.assertTrue(name == changed or text == shown[name])
                else:
                    self.assertIs(answer_or_refusal(desk.say, "show " + name), NoName)
            # The same questions behind the deed: unchanged, but where they ask of what it made.
            for question, answer in zip(questions, before):
                if question[1] in levels and (question[0] != "same" or question[2] in levels):
                    again = self.asked(desk, model, question)
                    self.assertTrue(changed in question[1:3] or again == answer, (deed, question))

    def told(self, model, deed):
        model.say(*deed)
        return deed

    def asked(self, desk, model, question):
        answer = answer_or_refusal(desk.say, row_of(*question))
        self.assertEqual(answer, answer_or_refusal(model.say, *question), question)
        return answer

    def test_against_pictures_place_by_place(self):
        for seed in range(12):
            self.assert_deeds(Pictures(), seed, 2, 40)
        for seed in range(12, 20):
            self.assert_deeds(Pictures(), seed, 3, 40)
        for seed in range(20, 22):
            self.assert_deeds(Pictures(), seed, 4, 20)

    def test_at_all_levels_against_the_functions(self):
        for seed in range(30):
            self.assert_deeds(Sheets(), seed, 40, 60)
        for seed in range(30, 40):
            self.assert_deeds(Sheets(), seed, 6, 60)

    def test_one_picture_has_one_sheet_in_whatever_way_it_was_made(self):
        for seed in range(6):
            sheet = drawn(3, seed, 3, 10)
            text = text_from(sheet)
            desk = Desk()
            desk.say("read a " + text)
            desk.say("plain b 3 0")
            for (x, y), colour in picture_of(sheet).items():
                desk.say(f"plain c 0 {ALL_SIGNS[colour]}")
                desk.say(f"lay b {x} {y} c")
            desk.say("plain dd 3 z")
            for code, colour in reversed(leaves_from(sheet)):
                desk.say(f"paint dd {code or '-'} {ALL_SIGNS[colour]}")
            desk.say("copy e a")
            for row in ["finer e 37"] + ["turn e"] * 4 + ["mirror e"] * 2 + ["swap e"] * 2 + ["coarser e 37"]:
                desk.say(row)
            for name in ["b", "dd", "e"]:
                self.assertEqual(desk.say(f"same a {name}"), "yes")
                self.assertEqual(desk.say(f"show {name}"), text)
