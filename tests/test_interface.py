"""The names and arguments of the interface."""

import importlib
import inspect
import unittest

FUNCTIONS = {
    "kinds": ["is_whole(thing)", "is_level(thing)", "is_colour(thing)", "is_code(thing)"],
    "codes": [
        "corner(code, level)", "code_at(x, y, level)", "beside(code, side)", "holds(code, other)", "numbered(code)",
        "code_of(number)", "common(code, other, level)",
    ],
    "sheets": [
        "is_sheet(thing)", "plain(level, colour)", "joined(a, b, c, d)", "quarters(sheet)", "colour_at(sheet, x, y)",
    ],
    "painting": ["painted(sheet, code, colour)", "unlike(one, other)"],
    "leaves": [
        "leaves(sheet)", "leaf_at(sheet, x, y)", "sheet_of(level, cover)", "settled(cover)", "areas(sheet)",
    ],
    "mixing": [
        "mapped(sheet, turned)", "mixed(one, other, table)", "over(lower, upper, clear)",
        "chosen(mask, colour, one, other)",
    ],
    "rowwise": ["row_mapped(row, turned)", "row_mixed(row, other, table)", "row_turned(row)"],
    "turning": ["turned_left(sheet)", "mirrored(sheet)", "swapped(sheet)"],
    "cutting": [
        "part_at(sheet, code)", "put_in(sheet, code, other)", "window(sheet, x, y, level, colour)",
        "laid(sheet, x, y, other)",
    ],
    "beyond": ["beyond(sheet, code, side)", "touches(sheet)"],
    "lands": ["lands(sheet)", "rim(sheet, x, y)"],
    "steps": ["steps_from(sheet, x, y)", "way_between(sheet, x, y, to_x, to_y)"],
    "rings": ["rings(sheet, x, y)"],
    "texts": ["written(sheet)", "read(text)", "rows_of(sheet)", "sheet_of_rows(rows)"],
    "scaling": ["finer(sheet, number)", "coarser(sheet, number)"],
    "desk": ["Desk()"],
}


class Interface(unittest.TestCase):
    def test_names_and_arguments(self):
        for module, rows in FUNCTIONS.items():
            found = importlib.import_module("quartersheet." + module)
            for row in rows:
                name = row.partition("(")[0]
                self.assertEqual(name + str(inspect.signature(getattr(found, name))), row)

    def test_the_desk(self):
        desk = importlib.import_module("quartersheet.desk").Desk()
        self.assertEqual(str(inspect.signature(desk.say)), "(row)")
