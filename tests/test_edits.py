"""Points 101, 102, 111 to 113: edits and their inverses."""

import unittest

from alikeplay.edits import flooded, made
from alikeplay.errors import BadValue
from alikeplay.levels import is_level
from alikeplay.leveltexts import read_level
from helpers import NO_INTEGERS, NO_TUPLES, Cases, check_arguments, check_pure
from levels import (
    EMPTY, FULL, HERO, LEVEL, MOB, NO_NAMES, NO_NUMBERS, NO_TEXTS, NO_THINGS, NUMBERS, SOME_NO_LEVELS, Board, slow_made,
    some_cell, some_edit, some_level,
)
from test_boxes import NO_COORDINATES
from test_grids import NO_GRIDS, some_grid

GRID, THINGS, NOTES = LEVEL
NO_SIGNS = ("", "x", "..", " ", None, 5, True, ".#^~", b".", ("#",), ["#"])
NO_SIZES = (0, -1, 41, *NO_INTEGERS)
NOTHING = ("group", ())


def group(*edits):
    return "group", edits


def deep(count, edit=NOTHING):
    """Put an edit into so many groups."""
    for _ in range(count):
        edit = group(edit)
    return edit


class EditCase(unittest.TestCase):
    def check_made(self, edit, inverse, level=LEVEL, **parts):
        """Test what an edit leads to: a level with another grid, things or notes; return it."""
        after, back = check_pure(self, made, level, edit)
        expected = tuple(parts.get(name, part) for name, part in zip(("grid", "things", "notes"), level))
        self.assertEqual((after, back), (expected, inverse))
        self.assertTrue(is_level(after))
        self.assertEqual(made(after, back)[0], level)
        return after

    def check_refused(self, *edits, level=LEVEL):
        for edit in edits:
            for some in (edit, group(edit), group(("cells", ((0, 0, "~"),)), edit), deep(3, edit)):
                with self.assertRaises(BadValue) as caught:
                    made(level, some)
                self.assertEqual(caught.exception.name, "edit", some)


class EditTests(EditCase):
    def test_document(self):
        level = read_level("grid 3 2\n...\n###\nthing hero walker 8 16 hp=3\nnote title Begin\n")
        after, inverse = made(level, ("area", 0, 0, 1, 0, "~"))
        self.assertEqual((after[0], inverse), ((3, 2, "~~.###"), ("cells", ((0, 0, "."), (1, 0, ".")))))

    def test_what_is_no_edit(self):
        self.check_refused(*NO_TUPLES, (), ("cells",), ("Cells", ((0, 0, "#"),)), ("rest", 1), (5, ((0, 0, "#"),)), (None,), (True, 1),
                           (["cells"], ((0, 0, "#"),)), (("cells",), ((0, 0, "#"),)), ["cells", ((0, 0, "#"),)], ({}, 1), "cells")

    def test_cells(self):
        self.check_made(("cells", ((1, 1, "."),)), ("cells", ((1, 1, "#"),)), grid=(3, 2, "...#.#"))
        self.check_made(("cells", ((2, 1, "^"), (0, 1, "#"), (1, 0, "~"))), ("cells", ((1, 0, "."), (0, 1, "#"), (2, 1, "#"))),
                        grid=(3, 2, ".~.##^"))
        self.check_made(("cells", ((0, 0, "."),)), ("cells", ((0, 0, "."),)))
        for cells in (*NO_TUPLES, (), (0, 0, "#"), [(0, 0, "#")], ((0, 0),), ((0, 0, "#", 1),), ([0, 0, "#"],),
                      ((0, 0, "#"), (0, 0, "#")), ((0, 0, "#"), (1, 0, "#"), (0, 0, "^")), ((3, 0, "#"),), ((0, 2, "#"),), ((-1, 0, "#"),),
                      ((0, -1, "#"),), ((0, 0, "#"), (3, 1, "#"))):
            self.check_refused(("cells", cells))
        self.check_refused(*[("cells", ((0, 0, sign),)) for sign in NO_SIGNS], *[("cells", ((value, 0, "#"),)) for value in NO_INTEGERS],
                           *[("cells", ((0, value, "#"),)) for value in NO_INTEGERS], ("cells", ((0, 0, "#"),), 1))

    def test_area(self):
        self.check_made(("area", 0, 0, 2, 1, "^"), ("cells", tuple((column, row, ".#"[row]) for row in (0, 1) for column in (0, 1, 2))),
                        grid=(3, 2, "^^^^^^"))
        self.check_made(("area", 1, 0, 1, 1, "#"), ("cells", ((1, 0, "."), (1, 1, "#"))), grid=(3, 2, ".#.###"))
        self.check_made(("area", 2, 1, 2, 1, "#"), ("cells", ((2, 1, "#"),)))
        self.check_refused(("area", 1, 0, 0, 0, "#"), ("area", 0, 1, 0, 0, "#"), ("area", -1, 0, 0, 0, "#"), ("area", 0, -1, 0, 0, "#"),
                           ("area", 0, 0, 3, 0, "#"), ("area", 0, 0, 0, 2, "#"), ("area", 0, 0, 0, 0), ("area", 0, 0, 0, 0, "#", 1),
                           *[("area", 0, 0, 1, 1, sign) for sign in NO_SIGNS])
        for value in NO_INTEGERS:
            for place in range(1, 5):
                edit = ["area", 0, 0, 1, 1, "#"]
                edit[place] = value
                self.check_refused(tuple(edit))

    def test_flood(self):
        self.check_made(("flood", 1, 0, "~"), ("cells", ((0, 0, "."), (1, 0, "."), (2, 0, "."))), grid=(3, 2, "~~~###"))
        self.check_made(("flood", 0, 1, "#"), ("cells", ((0, 1, "#"), (1, 1, "#"), (2, 1, "#"))))
        self.check_refused(("flood", 3, 0, "#"), ("flood", 0, 2, "#"), ("flood", -1, 0, "#"), ("flood", 0, -1, "#"), ("flood", 0, 0),
                           ("flood", 0, 0, "#", 1), *[("flood", 0, 0, sign) for sign in NO_SIGNS],
                           *[("flood", value, 0, "#") for value in NO_INTEGERS], *[("flood", 0, value, "#") for value in NO_INTEGERS])
        inverse = made(FULL, ("flood", 5, 5, "."))[1]
        self.assertEqual(inverse, ("cells", tuple((5, row, ".") for row in range(40))))

    def test_put_and_drop(self):
        thing = ("lamp", "light", 0, 0, (("on", 1),))
        self.check_made(("put", thing), ("drop", "lamp"), things=(HERO, thing, MOB))
        self.check_made(("put", ("a", "b", 0, 0, NUMBERS)), ("drop", "a"), things=(("a", "b", 0, 0, NUMBERS), HERO, MOB))
        self.check_made(("put", ("z", "b", 0, 0, ())), ("drop", "z"), things=(HERO, MOB, ("z", "b", 0, 0, ())))
        self.check_made(("drop", "hero"), ("put", HERO), things=(MOB,))
        self.check_made(("drop", "mob"), ("put", MOB), things=(HERO,))
        self.check_refused(("put", HERO), ("put", ("mob", "b", 0, 0, ())), ("put",), ("put", thing, 1), ("drop",), ("drop", "hero", 1),
                           ("drop", "lamp"), *[("put", thing) for thing in NO_THINGS], *[("drop", name) for name in NO_NAMES])
        self.check_refused(("put", ("a", "b", 0, 0, ())), level=FULL)
        self.check_made(("put", FULL[1][7]), ("drop", "thing07"), (FULL[0], FULL[1][:7] + FULL[1][8:], ()), things=FULL[1])

    def test_place(self):
        self.check_made(("place", "hero", 20000, -20000), ("place", "hero", 8, 16), things=(("hero", "walker", 20000, -20000, HERO[4]), MOB))
        self.check_made(("place", "mob", -20000, 20000), ("place", "mob", -20000, 20000))
        self.check_refused(("place", "nobody", 0, 0), ("place", "hero", 0), ("place", "hero", 0, 0, 0),
                           *[("place", "hero", value, 0) for value in NO_COORDINATES],
                           *[("place", "hero", 0, value) for value in NO_COORDINATES], *[("place", name, 0, 0) for name in NO_NAMES])

    def test_value(self):
        def with_numbers(*numbers):
            return (*HERO[:4], numbers), MOB
        self.check_made(("value", "hero", "hp", -1000), ("value", "hero", "hp", 3), things=with_numbers(("hp", -1000), ("mp", -1000)))
        self.check_made(("value", "hero", "hp", None), ("value", "hero", "hp", 3), things=with_numbers(("mp", -1000)))
        self.check_made(("value", "hero", "a", 1000), ("value", "hero", "a", None), things=with_numbers(("a", 1000), *HERO[4]))
        self.check_made(("value", "hero", "hp", 3), ("value", "hero", "hp", 3))
        self.check_made(("value", "hero", "hq", 0), ("value", "hero", "hq", None), things=with_numbers(HERO[4][0], ("hq", 0), HERO[4][1]))
        self.check_refused(("value", "nobody", "hp", 1), ("value", "hero", "none", None), ("value", "mob", "hp", None), ("value", "hero", "hp"),
                           ("value", "hero", "hp", 1, 1), *[("value", "hero", "hp", value) for value in NO_NUMBERS],
                           *[("value", name, "hp", 1) for name in NO_NAMES], *[("value", "hero", name, 1) for name in NO_NAMES],
                           *[("value", "hero", name, None) for name in NO_NAMES])
        self.check_refused(("value", "thing00", "z", 1), level=FULL)
        self.assertEqual(made(FULL, ("value", "thing00", "k5", 1))[1], ("value", "thing00", "k5", 995))
        zero = (GRID, (("a", "k", 0, 0, (("m", 0),)),), ())
        self.check_made(("value", "a", "m", 5), ("value", "a", "m", 0), zero, things=(("a", "k", 0, 0, (("m", 5),)),))
        self.check_made(("value", "a", "m", None), ("value", "a", "m", 0), zero, things=(("a", "k", 0, 0, ()),))

    def test_name(self):
        self.check_made(("name", "hero", "zorro"), ("name", "zorro", "hero"), things=(MOB, ("zorro", *HERO[1:])))
        self.check_made(("name", "mob", "a23456789012"), ("name", "a23456789012", "mob"), things=(("a23456789012", *MOB[1:]), HERO))
        self.check_refused(("name", "hero", "mob"), ("name", "hero", "hero"), ("name", "nobody", "a"), ("name", "nobody", "hero"),
                           ("name", "hero"), ("name", "hero", "a", 1), *[("name", "hero", name) for name in NO_NAMES],
                           *[("name", name, "a") for name in NO_NAMES])

    def test_note(self):
        self.check_made(("note", "title", "End"), ("note", "title", "Begin"), notes=(("title", "End"), ("tune", "~ !")))
        self.check_made(("note", "title", None), ("note", "title", "Begin"), notes=(("tune", "~ !"),))
        self.check_made(("note", "tim", "x" * 40), ("note", "tim", None), notes=(("tim", "x" * 40), *NOTES))
        self.check_made(("note", "tune", "~ !"), ("note", "tune", "~ !"))
        self.check_refused(("note", "none", None), ("note", "title"), ("note", "title", "a", "b"), *[("note", "title", text) for text in NO_TEXTS],
                           *[("note", name, "a") for name in NO_NAMES], *[("note", name, None) for name in NO_NAMES])
        self.check_refused(("note", "z", "z"), level=FULL)
        self.assertEqual(made(FULL, ("note", "note7", "z"))[0][2][7], ("note7", "z"))

    def test_size(self):
        old = ("grid", GRID)
        self.check_made(("size", 2, 3, "~"), old, grid=(2, 3, "..##~~"))
        self.check_made(("size", 4, 1, "^"), old, grid=(4, 1, "...^"))
        self.check_made(("size", 3, 2, "^"), old)
        self.check_made(("size", 1, 1, "#"), old, grid=(1, 1, "."))
        self.check_made(("size", 40, 40, "."), old, grid=(40, 40, "." * 40 + "###" + "." * 1557))
        self.check_refused(("size", 3, 2), ("size", 3, 2, "#", 1), *[("size", value, 2, "#") for value in NO_SIZES],
                           *[("size", 3, value, "#") for value in NO_SIZES], *[("size", 3, 2, sign) for sign in NO_SIGNS])

    def test_grid(self):
        self.check_made(("grid", (1, 2, "#~")), ("grid", GRID), grid=(1, 2, "#~"))
        self.check_made(("grid", FULL[0]), ("grid", GRID), grid=FULL[0])
        self.check_refused(("grid",), ("grid", GRID, 1), ("grid", *GRID), *[("grid", grid) for grid in NO_GRIDS])

    def test_levels_are_checked(self):
        check_arguments(self, made, (LEVEL, NOTHING), (("level", SOME_NO_LEVELS), ("edit", (None, (), "cells", ("group",)))))


class GroupTests(EditCase):
    def test_groups(self):
        edits = (("cells", ((0, 0, "#"),)), ("flood", 0, 0, "~"), ("drop", "mob"), ("name", "hero", "mob"))
        after = self.check_made(group(*edits), group(("name", "mob", "hero"), ("put", MOB), ("cells", (
            (0, 0, "#"), (0, 1, "#"), (1, 1, "#"), (2, 1, "#"))), ("cells", ((0, 0, "."),))),
            grid=(3, 2, "~..~~~"), things=(("mob", *HERO[1:]),))
        self.check_refused(group(*edits), level=after)

    def test_a_later_edit_that_needs_an_earlier_one(self):
        thing = ("a", "k", 0, 0, ())
        needing = (("put", thing), ("value", "a", "m", 1), ("name", "a", "b"), ("value", "b", "m", None), ("drop", "b"))
        self.check_made(group(*needing), group(
            ("put", ("b", "k", 0, 0, ())), ("value", "b", "m", 1), ("name", "b", "a"), ("value", "a", "m", None), ("drop", "a")))
        for left_out in range(len(needing) - 1):
            if left_out != 3:
                self.check_refused(group(*needing[:left_out], *needing[left_out + 1:]))
        self.check_made(group(("size", 4, 2, "."), ("cells", ((3, 0, "#"),))), group(("cells", ((3, 0, "."),)), ("grid", GRID)),
                        grid=(4, 2, "...####."))
        self.check_refused(group(("cells", ((3, 0, "#"),)), ("size", 4, 2, ".")))
        self.check_refused(group(("drop", "mob"), ("drop", "mob")))

    def test_a_level_in_each_step(self):
        """There are too many things between the edits of a group, so they cannot be made."""
        self.check_refused(group(("put", ("a", "k", 0, 0, ())), ("drop", "thing00")), level=FULL)
        after = made(FULL, group(("drop", "thing00"), ("put", ("a", "k", 0, 0, ()))))[0]
        self.assertEqual((len(after[1]), after[1][0][0]), (20, "a"))

    def test_empty_groups(self):
        for count in range(3):
            self.check_made(deep(count), deep(count))
        self.check_made(group(NOTHING, group(NOTHING, NOTHING)), group(group(NOTHING, NOTHING), NOTHING))

    def test_depth(self):
        cell, back = ("cells", ((0, 0, "#"),)), ("cells", ((0, 0, "."),))
        self.check_made(deep(3, cell), deep(3, back), grid=(3, 2, "#..###"))
        for edit in (deep(4, cell), deep(3), deep(5), deep(200), group(cell, deep(3, cell)), group(deep(2), deep(3))):
            with self.assertRaises(BadValue) as caught:
                made(LEVEL, edit)
            self.assertEqual(caught.exception.name, "edit")

    def test_count(self):
        cell = ("cells", ((0, 0, "#"),))
        fits = [(cell,) * 59, (group(*(cell,) * 58),), (group(*(cell,) * 28), group(*(cell,) * 29)), (NOTHING,) * 59,
                (deep(2, cell), *(cell,) * 56), (*(group(cell),) * 29, cell)]
        for edits in fits:
            self.assertEqual(made(LEVEL, group(*edits))[0][0][2], "#..###" if edits[0] != NOTHING else "...###")
            with self.assertRaises(BadValue) as caught:
                made(LEVEL, group(*edits, cell))
            self.assertEqual(caught.exception.name, "edit")
            with self.assertRaises(BadValue):
                made(LEVEL, group(NOTHING, *edits))
        with self.assertRaises(BadValue):
            made(LEVEL, group(*(cell,) * 5000))

    def test_what_is_no_group(self):
        self.check_refused(("group",), ("group", (), ()), ("group", []), ("group", None), ("group", "ab"), ("group", [NOTHING]),
                           ("group", NOTHING), ("group", (("cells", ((0, 0, "#"),)), None)), ("groups", ()))


class ModelTests(unittest.TestCase):
    def test_drawn_edits(self):
        cases = Cases(121)
        seen = {}
        for _ in range(1500):
            level = some_level(cases)
            edit = some_edit(cases, level)
            expected = slow_made(level, edit)
            seen[edit[0], expected is None] = True
            if expected is None:
                with self.assertRaises(BadValue) as caught:
                    made(level, edit)
                self.assertEqual(caught.exception.name, "edit")
                continue
            after, inverse = check_pure(self, made, level, edit)
            self.assertEqual((after, inverse), expected, (level, edit))
            self.assertEqual(made(after, inverse)[0], level)
        self.assertEqual(len(seen), 12 * 2 - 4)

    def test_chains(self):
        """A row of edits is taken back by its inverses in reversed order, and by their inverses made again."""
        cases = Cases(122)
        for _ in range(40):
            level = some_level(cases)
            levels, inverses = [level], []
            for _ in range(15):
                edit = some_edit(cases, levels[-1])
                if slow_made(levels[-1], edit) is not None:
                    after, inverse = made(levels[-1], edit)
                    levels.append(after)
                    inverses.append(inverse)
            level = levels.pop()
            for inverse in inverses[::-1]:
                before, again = made(level, inverse)
                self.assertEqual((before, made(before, again)[0]), (levels.pop(), level))
                level = before


class FloodTests(unittest.TestCase):
    def test_each_sign(self):
        for sign in ".#^~":
            other = "#" if sign != "#" else "."
            cells = "".join(sign if mark == "x" else other for mark in "x.xx" "xx.x" "..xx")
            expected = [(0, 0), (0, 1), (1, 1)]
            for cell in expected:
                self.assertEqual(check_pure(self, flooded, (4, 3, cells), *cell), expected)
            self.assertEqual(flooded((4, 3, cells), 2, 0), [(2, 0), (3, 0), (3, 1), (2, 2), (3, 2)])

    def test_corners_and_edges(self):
        self.assertEqual(flooded((2, 2, ".##."), 0, 0), [(0, 0)])
        self.assertEqual(flooded((2, 2, ".##."), 1, 0), [(1, 0)])
        # The end of a row is not beside the beginning of the next one.
        self.assertEqual(flooded((3, 2, "#....#"), 1, 0), [(1, 0), (2, 0), (0, 1), (1, 1)])
        self.assertEqual(flooded((3, 2, "##..##"), 2, 0), [(2, 0)])
        self.assertEqual(flooded((3, 2, "##..##"), 0, 1), [(0, 1)])
        self.assertEqual(flooded((1, 1, "^"), 0, 0), [(0, 0)])

    def test_around_walls(self):
        grid = (5, 5, ".#..." ".#.#." ".#.#." ".#.#." "...#.")
        self.assertEqual(len(flooded(grid, 0, 0)), 17)
        self.assertEqual(flooded(grid, 3, 2), [(3, 1), (3, 2), (3, 3), (3, 4)])

    def test_the_whole_grid(self):
        for columns, rows in ((40, 40), (40, 1), (1, 40)):
            expected = [(column, row) for row in range(rows) for column in range(columns)]
            for sign in ".#":
                self.assertEqual(flooded((columns, rows, sign * (columns * rows)), columns - 1, rows // 2), expected)

    def test_drawn_grids(self):
        cases = Cases(123)
        for _ in range(120):
            grid = some_grid(cases, 6, "..#")
            cell = some_cell(cases, (grid,))
            expected = sorted(Board((grid, (), ())).flood(*cell), key=lambda at: (at[1], at[0]))
            self.assertEqual(flooded(grid, *cell), expected)

    def test_arguments(self):
        wrong = (("grid", NO_GRIDS), ("column", (-1, 3, *NO_INTEGERS)), ("row", (-1, 2, *NO_INTEGERS)))
        check_arguments(self, flooded, (GRID, 2, 1), wrong)
        check_arguments(self, flooded, (EMPTY[0], 0, 0), (wrong[0], ("column", (1, -1)), ("row", (1, -1))))


if __name__ == "__main__":
    unittest.main()
