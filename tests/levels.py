"""Levels and edits for the tests, and what comes of them, found in another way than the program does it."""

import re

from helpers import NO_INTEGERS, NO_TUPLES
from scripts import replaced
from test_boxes import NO_COORDINATES
from test_grids import NO_GRIDS, some_grid

HERO = ("hero", "walker", 8, 16, (("hp", 3), ("mp", -1000)))
MOB = ("mob", "slug", -20000, 20000, ())
LEVEL = ((3, 2, "...###"), (HERO, MOB), (("title", "Begin"), ("tune", "~ !")))
NUMBERS = tuple((f"k{index}", 1000 - index) for index in range(6))
# As much as a level can have.
FULL = (
    (40, 40, "#.^~" * 400), tuple((f"thing{index:02}", "kind12345678", index - 10, -index, NUMBERS) for index in range(20)),
    tuple((f"note{index}", "x" * 40) for index in range(8)),
)
EMPTY = ((1, 1, "."), (), ())
NO_NAMES = ("", "A", "1a", "a_b", "a b", "a" * 13, "\u00e4", "aB", "a=", *[value for value in NO_INTEGERS if value != "1"], "1")
NO_NUMBERS = (-1001, 1001, *[value for value in NO_INTEGERS if value is not None])
NO_TEXTS = ("", " ", " a", "a ", "x" * 41, "a\n", "\ta", "\u00e4", "a\u007f", 5, True, False, b"a", ("a",), ["a"])


def wrong_things():
    """Return values that are no things of a level."""
    found = [*NO_TUPLES, (), HERO[:4], (*HERO, ()), list(HERO)]
    found += [replaced(HERO, (place,), name) for place in (0, 1) for name in NO_NAMES]
    found += [replaced(HERO, (place,), number) for place in (2, 3) for number in NO_COORDINATES]
    rows = [*NO_TUPLES, ("hp", 3), [("hp", 3)], NUMBERS + (("z", 1),), NUMBERS[::-1], (NUMBERS[0],) * 2, (("hp",),),
            (("hp", 3, 3),), (["hp", 3],), (("b", 1), ("a", 1)), (("a", 1), ("c", 1), ("b", 1)), (("hp", None),)]
    rows += [((name, 3),) for name in NO_NAMES] + [(("hp", number),) for number in NO_NUMBERS]
    return found + [replaced(HERO, (4,), row) for row in rows]


def wrong_notes():
    """Return values that are no notes."""
    found = [*NO_TUPLES, (), ("title",), ("title", "a", "b"), ["title", "a"], ("title", None)]
    return found + [(name, "a") for name in NO_NAMES] + [("title", text) for text in NO_TEXTS]


NO_THINGS = tuple(wrong_things())
NO_NOTES = tuple(wrong_notes())


def wrong_levels():
    """Return values that are no levels."""
    things, notes = FULL[1], FULL[2]
    found = [*NO_TUPLES, (), LEVEL[:2], (*LEVEL, ()), list(LEVEL)]
    found += [(grid, *LEVEL[1:]) for grid in NO_GRIDS]
    rows = [*NO_TUPLES, list(things), things + (("z", "z", 0, 0, ()),), things[::-1], (HERO, HERO), (MOB, HERO),
            (things[0], things[2], things[1]), (HERO, replaced(MOB, (0,), "hero"))]
    found += [(LEVEL[0], row, LEVEL[2]) for row in rows + [(thing,) for thing in NO_THINGS] + [(HERO, thing) for thing in NO_THINGS]]
    rows = [*NO_TUPLES, list(notes), notes + (("z", "z"),), notes[::-1], (notes[0],) * 2, (notes[0], notes[2], notes[1]),
            (("a", "x"), ("a", "y"))]
    return found + [(*LEVEL[:2], row) for row in rows + [(note,) for note in NO_NOTES] + [(("a", "a"), note) for note in NO_NOTES]]


NO_LEVELS = tuple(wrong_levels())
# Some of them, for tests in which each is used many times.
SOME_NO_LEVELS = (*NO_TUPLES, *NO_LEVELS[::7])


def is_slow_name(value):
    return isinstance(value, str) and re.fullmatch("[a-z][a-z0-9]{0,11}", value) is not None


def is_slow_note(key, text):
    if not is_slow_name(key) or not isinstance(text, str):
        return False
    return re.fullmatch("[!-~]([ -~]{0,38}[!-~])?", text) is not None


def is_in(value, low, high):
    return type(value) is int and low <= value <= high


class Board:
    """A level whose parts can be changed."""

    def __init__(self, level):
        (self.columns, self.rows, cells), things, notes = level
        self.signs = {(index % self.columns, index // self.columns): sign for index, sign in enumerate(cells)}
        self.things = {name: [kind, x, y, dict(numbers)] for name, kind, x, y, numbers in things}
        self.notes = dict(notes)

    def level(self):
        cells = "".join(self.signs[column, row] for row in range(self.rows) for column in range(self.columns))
        things = tuple((name, kind, x, y, tuple(sorted(numbers.items())))
                       for name, (kind, x, y, numbers) in sorted(self.things.items()))
        return (self.columns, self.rows, cells), things, tuple(sorted(self.notes.items()))

    def is_in_bounds(self):
        return (len(self.things) <= 20 and len(self.notes) <= 8
                and all(len(thing[3]) <= 6 for thing in self.things.values()))

    def make(self, edit):
        """Make an edit with right items; return its inverse, or None if it cannot be made."""
        inverse = getattr(self, "make_" + edit[0])(*edit[1:])
        return inverse if inverse is not None and self.is_in_bounds() else None

    def paint(self, signs):
        old = tuple((column, row, self.signs[column, row]) for row, column in sorted((r, c) for c, r in signs))
        self.signs.update(signs)
        return "cells", old

    def make_cells(self, cells):
        signs = {(column, row): sign for column, row, sign in cells}
        if len(signs) < len(cells) or not signs or any(cell not in self.signs for cell in signs):
            return None
        return self.paint(signs)

    def make_area(self, c0, r0, c1, r1, sign):
        cells = [(column, row) for column in range(c0, c1 + 1) for row in range(r0, r1 + 1)]
        return self.make_cells([(*cell, sign) for cell in cells])

    def make_flood(self, column, row, sign):
        return self.paint({cell: sign for cell in self.flood(column, row)}) if (column, row) in self.signs else None

    def flood(self, column, row):
        """Grow the flood until nothing comes to it any more."""
        found = {(column, row)}
        while True:
            more = {cell for cell, sign in self.signs.items() if sign == self.signs[column, row] and cell not in found
                    and any(abs(cell[0] - other[0]) + abs(cell[1] - other[1]) == 1 for other in found)}
            if not more:
                return found
            found |= more

    def make_put(self, thing):
        name, kind, x, y, numbers = thing
        if name in self.things:
            return None
        self.things[name] = [kind, x, y, dict(numbers)]
        return "drop", name

    def make_drop(self, name):
        if name not in self.things:
            return None
        kind, x, y, numbers = self.things.pop(name)
        return "put", (name, kind, x, y, tuple(sorted(numbers.items())))

    def make_place(self, name, x, y):
        if name not in self.things:
            return None
        kind, old_x, old_y, numbers = self.things[name]
        self.things[name] = [kind, x, y, numbers]
        return "place", name, old_x, old_y

    def make_value(self, name, key, number):
        if name not in self.things or number is None and key not in self.things[name][3]:
            return None
        numbers = self.things[name][3]
        old = numbers.pop(key, None)
        if number is not None:
            numbers[key] = number
        return "value", name, key, old

    def make_name(self, old, new):
        if old not in self.things or new in self.things:
            return None
        self.things[new] = self.things.pop(old)
        return "name", new, old

    def make_note(self, key, text):
        if text is None and key not in self.notes:
            return None
        old = self.notes.pop(key, None)
        if text is not None:
            self.notes[key] = text
        return "note", key, old

    def make_size(self, columns, rows, sign):
        old = self.level()[0]
        self.columns, self.rows = columns, rows
        self.signs = {(column, row): self.signs.get((column, row), sign) for column in range(columns) for row in range(rows)}
        return "grid", old

    def make_grid(self, grid):
        old = self.level()[0]
        other = Board((grid, (), ()))
        self.columns, self.rows, self.signs = other.columns, other.rows, other.signs
        return "grid", old

    def make_group(self, edits):
        inverses = []
        for edit in edits:
            inverse = self.make(edit)
            if inverse is None:
                return None
            inverses.insert(0, inverse)
        return "group", tuple(inverses)


def slow_made(level, edit):
    """Return the level and the inverse of an edit with right items, or None if it cannot be made."""
    board = Board(level)
    inverse = board.make(edit)
    return None if inverse is None else (board.level(), inverse)


def some_name(cases):
    return cases.one(("a", "b", "c", "d", "e1", "hero"))


def some_text(cases):
    return cases.one(("a", "b c", "~", "x" * 40, "=# 1", '"'))


def some_thing(cases, name):
    keys = sorted({some_name(cases) for _ in range(cases.whole(0, 4))})
    numbers = tuple((key, cases.one((-1000, 1000, cases.whole(-9, 9)))) for key in keys)
    return name, some_name(cases), cases.one((-20000, 20000, 5, 6)), cases.whole(-3, 3), numbers


def some_level(cases, longest=5):
    things = tuple(some_thing(cases, name) for name in sorted({some_name(cases) for _ in range(cases.whole(0, 6))}))
    notes = tuple((key, some_text(cases)) for key in sorted({some_name(cases) for _ in range(cases.whole(0, 5))}))
    return some_grid(cases, longest), things, notes


def some_cell(cases, level):
    return cases.whole(0, level[0][0] - 1), cases.whole(0, level[0][1] - 1)


def some_edit(cases, level, deep=3):
    """Make an edit with right items that can often be made in the level."""
    names = [thing[0] for thing in level[1]] + [some_name(cases)]
    column, row = some_cell(cases, level)
    sign = cases.one(".#^~")
    kind = cases.whole(0, 12 if deep else 11)
    if kind == 0:
        cells = [(*some_cell(cases, level), cases.one(".#^~")) for _ in range(cases.whole(1, 3))]
        return "cells", tuple(cells)
    if kind == 1:
        right, below = some_cell(cases, level)
        return "area", min(column, right), min(row, below), max(column, right), max(row, below), sign
    if kind == 2:
        return "flood", column, row, sign
    if kind == 3:
        return "put", some_thing(cases, some_name(cases))
    if kind == 4:
        return "drop", cases.one(names)
    if kind == 5:
        return "place", cases.one(names), cases.whole(-20000, 20000), cases.whole(-5, 5)
    if kind in (6, 7):
        return "value", cases.one(names), some_name(cases), cases.one((None, cases.whole(-9, 9)))
    if kind == 8:
        return "name", cases.one(names), some_name(cases)
    if kind == 9:
        return "note", some_name(cases), cases.one((None, some_text(cases), some_text(cases)))
    if kind == 10:
        return "size", max(1, level[0][0] + cases.whole(-1, 1)), max(1, level[0][1] + cases.whole(-1, 1)), sign
    if kind == 11:
        return "grid", some_grid(cases, 4)
    edits = []
    for _ in range(cases.whole(0, 4)):
        edit = some_edit(cases, level, deep - 1)
        pair = slow_made(level, edit)
        if pair is not None or cases.whole(0, 9) == 0:
            edits.append(edit)
            level = level if pair is None else pair[0]
    return "group", tuple(edits)


def some_variant(cases, level, most=6):
    """Return a level that some edits make of a level."""
    for _ in range(cases.whole(0, most)):
        pair = slow_made(level, some_edit(cases, level))
        level = level if pair is None else pair[0]
    return level


def table(level):
    """Return the entries of a level as a dict, as point 103 tells them."""
    board = Board(level)
    found = {("size",): (board.columns, board.rows)}
    found.update({("cell", *cell): sign for cell, sign in board.signs.items()})
    for name, (kind, x, y, numbers) in board.things.items():
        found["thing", name] = kind, x, y
        found.update({("value", name, key): number for key, number in numbers.items()})
    found.update({("note", key): text for key, text in board.notes.items()})
    return found


def place_of(key):
    """Return what the keys of entries are sorted by, as point 104 tells it."""
    word = ("size", "cell", "thing", "value", "note").index(key[0])
    if key[0] == "cell":
        return [1, key[2], key[1]]
    return [2 if word == 3 else word, *key[1:]]
