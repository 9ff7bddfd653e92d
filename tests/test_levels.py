"""Points 100, 103 to 106 and 111 to 113: levels, changes and merged levels."""

import itertools
import unittest

from alikeplay.errors import BadValue, TooLarge
from alikeplay.levels import changes_between, entries_of, is_level, merged, reversed_changes, with_changes
from helpers import NO_TUPLES, Cases, check_arguments, check_pure
from levels import (
    EMPTY, FULL, HERO, LEVEL, MOB, NO_LEVELS, NO_NAMES, NO_NUMBERS, NO_TEXTS, NUMBERS, SOME_NO_LEVELS, Board, is_in,
    is_slow_name, is_slow_note, place_of, some_level, some_variant, table,
)
from scripts import part_at, parts, replaced
from test_boxes import NO_COORDINATES

GRID = LEVEL[0]
HUGE = tuple((f"t{index:02}", "k", 0, 0, ()) for index in range(20))
NO_KEYS = (
    *NO_TUPLES, (), ("size", 1), ("cell",), ("cell", 0), ("cell", 0, 0, 0), ("cells", 0, 0), ("Cell", 0, 0), ("cell", -1, 0),
    ("cell", 0, -1), ("cell", 40, 0), ("cell", 0, 40), ("cell", True, 0), ("cell", 0, False), ("cell", 0.0, 0), ("cell", "0", 0), ("cell", [0], 0), ("thing",),
    ("thing", "hero", "hp"), ("value", "hero"), ("value", "hero", "hp", "hp"), ("note",), ("note", "title", "title"), ["size"],
    ["cell", 0, 0], "size", (("size",),), (["size"],), (5,), (None, 1), ("name", "hero"),
    *[(word, name) for word in ("thing", "note") for name in NO_NAMES], *[("value", name, "hp") for name in NO_NAMES],
    *[("value", "hero", name) for name in NO_NAMES],
)
NO_CHANGES = (
    None, True, 5, "", (), ((("cell", 0, 0), ".", "#"),), {}, [None], [5], [()], [(("cell", 0, 0), ".")],
    [(("cell", 0, 0), ".", "#", 1)], [[("cell", 0, 0), ".", "#"]], [(("cell", 0, 0), ".", "#"), (("cell", 0, 0), "#", ".")],
    [(("cell", 0, 0), ".", "#")] * 2, [(("cell", 0, 0), ".", "#"), (("cell", 1, 0), ".", "#"), (("cell", 0, 0), ".", "^")],
    *[[(key, None, 1)] for key in NO_KEYS], *[[(("cell", 0, 0), ".", "#"), (key, None, 1)] for key in NO_KEYS],
)


def is_slow_level(value):
    """Point 100, in other words."""
    if type(value) is not tuple or len(value) != 3 or not all(type(part) is tuple for part in value) or len(value[0]) != 3:
        return False
    (columns, rows, cells), things, notes = value
    if not is_in(columns, 1, 40) or not is_in(rows, 1, 40) or type(cells) is not str or len(cells) != columns * rows:
        return False
    if set(cells) - set(".#^~") or len(things) > 20 or len(notes) > 8:
        return False
    if not all(type(row) is tuple and len(row) == 5 for row in things) or not all(type(row) is tuple and len(row) == 2 for row in notes):
        return False
    return all(is_slow_thing(*thing) for thing in things) and all(is_slow_note(*note) for note in notes) and all(
        [row[0] for row in rows] == sorted({row[0] for row in rows}) for rows in (things, notes))


def is_slow_thing(name, kind, x, y, numbers):
    if not is_slow_name(name) or not is_slow_name(kind) or not is_in(x, -20000, 20000) or not is_in(y, -20000, 20000):
        return False
    if type(numbers) is not tuple or len(numbers) > 6 or not all(type(pair) is tuple and len(pair) == 2 for pair in numbers):
        return False
    if not all(is_slow_name(key) and is_in(number, -1000, 1000) for key, number in numbers):
        return False
    return [key for key, _ in numbers] == sorted({key for key, _ in numbers})


class LevelTests(unittest.TestCase):
    def test_levels(self):
        for level in (LEVEL, FULL, EMPTY, (GRID, (HERO,), ()), (GRID, (), (("a", "!"),))):
            self.assertIs(is_level(level), True)
        for thing in (("a", "b", 20000, -20000, ()), ("a23456789012", "z99", 0, 0, NUMBERS), ("a", "a", 1, 1, (("a", 0),))):
            self.assertIs(is_level((GRID, (thing,), ())), True)
        for text in ("a", "~", "!", "x" * 40, "a" + " " * 38 + "b", "note a b", "a\\n"):
            self.assertIs(is_level((GRID, (), (("a", text),))), True)

    def test_names_in_order(self):
        for names in (("a", "a0"), ("a", "aa"), ("a9", "aa"), ("b", "ba"), ("az", "b")):
            self.assertIs(is_level((GRID, tuple((name, "k", 0, 0, ()) for name in names), ())), True)
            self.assertIs(is_level((GRID, (), tuple((name, "k") for name in names))), True)
            self.assertIs(is_level((GRID, (("t", "k", 0, 0, tuple((name, 0) for name in names)),), ())), True)
            self.assertIs(is_level((GRID, tuple((name, "k", 0, 0, ()) for name in names[::-1]), ())), False)

    def test_no_levels(self):
        for value in NO_LEVELS:
            self.assertIs(is_level(value), False, value)
            self.assertFalse(is_slow_level(value))

    def test_parts_replaced(self):
        cases = Cases(111)
        values = (*NO_TUPLES, (), -1, 1, 1000, 1001, 20001, "a", "hero", "x y", "~", ".", "Title", ((),), "...", (1, "."))
        for _ in range(1500):
            level = cases.one((LEVEL, LEVEL, some_level(cases)))
            paths = list(parts(level))
            value = cases.one((cases.one(values), part_at(level, cases.one(paths))))
            changed = replaced(level, cases.one(paths), value)
            self.assertIs(is_level(changed), is_slow_level(changed), changed)


class EntryTests(unittest.TestCase):
    def test_entries(self):
        self.assertEqual(check_pure(self, entries_of, LEVEL), [
            (("size",), (3, 2)), (("cell", 0, 0), "."), (("cell", 1, 0), "."), (("cell", 2, 0), "."), (("cell", 0, 1), "#"),
            (("cell", 1, 1), "#"), (("cell", 2, 1), "#"), (("thing", "hero"), ("walker", 8, 16)), (("value", "hero", "hp"), 3),
            (("value", "hero", "mp"), -1000), (("thing", "mob"), ("slug", -20000, 20000)), (("note", "title"), "Begin"),
            (("note", "tune"), "~ !")])
        self.assertEqual(entries_of(EMPTY), [(("size",), (1, 1)), (("cell", 0, 0), ".")])

    def test_entries_in_order(self):
        cases = Cases(112)
        for level in [FULL] + [some_level(cases) for _ in range(60)]:
            expected = table(level)
            self.assertEqual(entries_of(level), [(key, expected[key]) for key in sorted(expected, key=place_of)])

    def test_changes(self):
        first = ((2, 2, "..##"), (("b", "k", 0, 0, (("m", 1), ("n", 2))), ("c", "k", 5, 5, ())), (("a", "x"), ("b", "y")))
        second = ((1, 3, ".^#"), (("a", "k", 0, 0, ()), ("b", "l", 0, 0, (("l", 7), ("m", 1), ("n", 3)))), (("b", "z"), ("c", "x")))
        self.assertEqual(check_pure(self, changes_between, first, second), [
            (("size",), (2, 2), (1, 3)), (("cell", 1, 0), ".", None), (("cell", 0, 1), "#", "^"), (("cell", 1, 1), "#", None),
            (("cell", 0, 2), None, "#"), (("thing", "a"), None, ("k", 0, 0)), (("thing", "b"), ("k", 0, 0), ("l", 0, 0)),
            (("value", "b", "l"), None, 7), (("value", "b", "n"), 2, 3), (("thing", "c"), ("k", 5, 5), None),
            (("note", "a"), "x", None), (("note", "b"), "y", "z"), (("note", "c"), None, "x")])
        self.assertEqual(changes_between(first, first), [])

    def test_changes_of_many_cells(self):
        """Cells are ordered by rows and columns as numbers."""
        found = changes_between(((40, 12, "." * 480), (), ()), ((40, 12, "#" * 480), (), ()))
        self.assertEqual(found, [(("cell", column, row), ".", "#") for row in range(12) for column in range(40)])

    def test_names_that_are_words(self):
        """Names can be the words of keys."""
        words = ("cell", "note", "size", "thing", "value")
        level = (GRID, tuple((word, word, 0, 0, tuple((key, 1) for key in words)) for word in words), tuple((word, word) for word in words))
        bare = (GRID, (), ())
        expected = [(("thing", "cell"), None, ("cell", 0, 0)), *[(("value", "cell", word), None, 1) for word in words]]
        changes = changes_between(bare, level)
        self.assertEqual((changes[:6], changes[-5:]), (expected, [(("note", word), None, word) for word in words]))
        self.assertEqual((with_changes(bare, changes), with_changes(level, reversed_changes(changes))), (level, bare))
        self.assertEqual(merged(bare, level, bare), (level, []))
        other = level[:2] + (tuple((word, "x") for word in words),)
        self.assertEqual(merged(bare, level, other), (level[:2] + ((),), [(("note", word), None, word, "x") for word in words]))

    def test_changes_there_and_back(self):
        cases = Cases(113)
        for _ in range(250):
            first = some_level(cases)
            second = some_variant(cases, first) if cases.whole(0, 3) else some_level(cases)
            old, new = table(first), table(second)
            differ = sorted([key for key in {**old, **new} if old.get(key) != new.get(key)], key=place_of)
            changes = check_pure(self, changes_between, first, second)
            self.assertEqual(changes, [(key, old.get(key), new.get(key)) for key in differ])
            backwards = check_pure(self, reversed_changes, changes)
            self.assertEqual(backwards, [(key, new.get(key), old.get(key)) for key in differ])
            for _ in range(2):
                self.assertEqual(check_pure(self, with_changes, first, changes), second)
                self.assertEqual(with_changes(second, backwards), first)
                changes = sorted(changes, key=lambda change: cases.whole(0, 99))
                backwards = backwards[::-1]
            self.assertEqual(with_changes(first, []), first)
            if changes:
                with self.assertRaises(BadValue):
                    with_changes(second, changes)

    def test_bounds(self):
        changes = [(("thing", "thing20"), None, ("k", 20000, -20000)), (("value", "thing20", "a"), None, -1000)]
        room = (FULL[0], FULL[1][:19], FULL[2][:7])
        self.assertEqual(with_changes(room, changes)[1][19], ("thing20", "k", 20000, -20000, (("a", -1000),)))
        self.assertEqual(len(with_changes(room, [(("note", "z"), None, "~")])[2]), 8)
        self.assertEqual(changes_between(EMPTY, FULL)[0], (("size",), (1, 1), (40, 40)))
        self.assertEqual(with_changes(EMPTY, changes_between(EMPTY, FULL)), FULL)
        self.assertEqual(with_changes(FULL, changes_between(FULL, EMPTY)), EMPTY)


class MisfitTests(unittest.TestCase):
    """Changes that do not fit."""

    def check_misfit(self, *changes, level=LEVEL):
        kept = list(changes)
        with self.assertRaises(BadValue) as caught:
            with_changes(level, list(changes))
        self.assertEqual((caught.exception.name, kept), ("changes", list(changes)))

    def test_wrong_old_values(self):
        for key in table(LEVEL):
            for old in (None, 0, 5, "^", "a", (1, 1), ("k", 0, 0)):
                self.check_misfit((key, old, table(LEVEL)[key]))
                self.check_misfit((("cell", 0, 0), ".", "#"), (key, old, old))
        for key, new in ((("cell", 3, 0), "."), (("thing", "a"), ("k", 0, 0)), (("value", "hero", "a"), 1), (("note", "a"), "a")):
            self.check_misfit((key, new, new))
            self.check_misfit((key, new, None))
        level = ((1, 1, "."), (("a", "k", 1, 0, (("a", 0), ("b", 1))),), ())
        self.check_misfit((("value", "a", "a"), False, 5), level=level)
        self.check_misfit((("value", "a", "b"), True, 5), level=level)
        self.check_misfit((("thing", "a"), ("k", True, 0), ("k", 5, 5)), level=level)
        self.check_misfit((("size",), (True, True), (1, 1)), level=level)

    def test_wrong_new_values(self):
        for new in ("x", "", "..", None, 5, True, ("#",), ["#"]):
            self.check_misfit((("cell", 0, 0), ".", new))
        for new in (None, (3,), (2, 2), (3, 3), (4, 2), (0, 2), (True, 2), [3, 2], 3, "32", (3, 2, 2)):
            self.check_misfit((("size",), (3, 2), new))
        for number in NO_NUMBERS:
            self.check_misfit((("value", "hero", "hp"), 3, number))
            self.check_misfit((("value", "hero", "new"), None, number))
        for text in NO_TEXTS:
            self.check_misfit((("note", "title"), "Begin", text))
        for number in NO_COORDINATES:
            self.check_misfit((("thing", "hero"), ("walker", 8, 16), ("walker", number, 16)))
            self.check_misfit((("thing", "new"), None, ("walker", 8, number)))
        for name in NO_NAMES:
            self.check_misfit((("thing", "new"), None, (name, 8, 16)))
        for look in ((), ("k", 8), ("k", 8, 8, 8), ["k", 8, 8], "k88", 5, True):
            self.check_misfit((("thing", "new"), None, look))

    def test_no_level_comes(self):
        self.check_misfit((("thing", "hero"), ("walker", 8, 16), None))
        self.check_misfit((("value", "nobody", "hp"), None, 3))
        self.check_misfit((("cell", 2, 1), "#", None))
        self.check_misfit((("cell", 3, 0), None, "#"))
        self.check_misfit((("cell", 0, 2), None, "#"))
        self.check_misfit((("size",), (3, 2), (2, 2)), (("cell", 2, 0), ".", None))
        self.check_misfit((("size",), (3, 2), (2, 3)), (("cell", 2, 0), ".", None), (("cell", 2, 1), "#", None))
        self.check_misfit((("thing", "zz"), None, ("k", 0, 0)), level=FULL)
        self.check_misfit((("note", "zz"), None, "k"), level=FULL)
        self.check_misfit((("value", "thing00", "zz"), None, 0), level=FULL)

    def test_what_comes_together(self):
        """What hangs at a thing that goes must go with it, in any order."""
        changes = [(("thing", "hero"), ("walker", 8, 16), None), (("value", "hero", "hp"), 3, None),
                   (("value", "hero", "mp"), -1000, None)]
        for order in itertools.permutations(changes):
            self.assertEqual(with_changes(LEVEL, list(order)), (GRID, (MOB,), LEVEL[2]))
        for some in itertools.combinations(changes, 2):
            if changes[0] in some:
                self.check_misfit(*some)
        self.assertEqual(with_changes(LEVEL, changes[1:])[1][0], (*HERO[:4], ()))

    def test_nothing_becomes_nothing(self):
        for key in (("note", "none"), ("thing", "none"), ("value", "none", "hp"), ("value", "hero", "none"), ("cell", 3, 0)):
            self.assertEqual(with_changes(LEVEL, [(key, None, None)]), LEVEL)
        self.assertEqual(with_changes(LEVEL, [(("note", "title"), "Begin", "Begin")]), LEVEL)

    def test_arguments(self):
        good = [(("cell", 0, 0), ".", "#")]
        check_arguments(self, entries_of, (LEVEL,), (("level", NO_LEVELS),))
        check_arguments(self, changes_between, (LEVEL, EMPTY), (("first", SOME_NO_LEVELS), ("second", SOME_NO_LEVELS)))
        check_arguments(self, with_changes, (LEVEL, good), (("level", SOME_NO_LEVELS), ("changes", NO_CHANGES)))
        check_arguments(self, reversed_changes, (good,), (("changes", NO_CHANGES),))
        self.assertEqual(reversed_changes([]), [])
        self.assertEqual(reversed_changes([(("cell", 39, 39), None, "#")]), [(("cell", 39, 39), "#", None)])


def slow_merged(base, mine, theirs):
    """Point 106, word by word; return the entries and the conflicts."""
    tables = [table(level) for level in (base, mine, theirs)]
    keys = {key for entries in tables for key in entries}
    entries, disagree = {}, set()
    for key in keys:
        b, m, t = [rows.get(key) for rows in tables]
        if m == b:
            entries[key] = t
        elif t in (b, m):
            entries[key] = m
        else:
            entries[key] = b
            disagree.add(key)
    columns, rows = entries["size",]
    inside = {("cell", column, row) for column in range(columns) for row in range(rows)}
    for key in keys | inside:
        value = entries.get(key)
        if key[0] == "cell" and (key in inside) != (value is not None):
            entries[key] = tables[0].get(key, ".") if key in inside else None
        elif key[0] == "value" and value is not None and entries.get(("thing", key[1])) is None:
            entries[key] = None
        if entries.get(key) != value and any(rows.get(key) != tables[0].get(key) for rows in tables[1:]):
            disagree.add(key)
    conflicts = [(key, *[rows.get(key) for rows in tables]) for key in sorted(disagree, key=place_of)]
    return {key: value for key, value in entries.items() if value is not None}, conflicts


def level_with(grid=GRID, things=(), notes=()):
    return grid, tuple(things), tuple(notes)


def numbered(*numbers, x=0, name="a"):
    return name, "k", x, 0, tuple(numbers)


class MergeTests(unittest.TestCase):
    def check_merge(self, base, mine, theirs, expected, conflicts):
        for level in (base, mine, theirs, expected):
            self.assertTrue(is_level(level), level)
        self.assertEqual(check_pure(self, merged, base, mine, theirs), (expected, conflicts))
        turned = [(key, old, second, first) for key, old, first, second in conflicts]
        self.assertEqual(merged(base, theirs, mine), (expected, turned))

    def test_each_key(self):
        """Each of the ways in which a note can be changed, or not, on both sides."""
        for old, mine, theirs in itertools.product((None, "a", "b", "c"), repeat=3):
            sides = [level_with(notes=() if text is None else (("k", text),)) for text in (old, mine, theirs)]
            if mine == old or mine == theirs:
                expected, conflicts = sides[2], []
            elif theirs == old:
                expected, conflicts = sides[1], []
            else:
                expected, conflicts = sides[0], [(("note", "k"), old, mine, theirs)]
            self.check_merge(*sides, expected, conflicts)

    def test_both_sides(self):
        base = level_with((2, 1, ".."), [numbered(("m", 1), ("n", 1))], [("a", "x"), ("b", "x")])
        mine = level_with((2, 1, "#."), [numbered(("m", 2), ("n", 1))], [("b", "y")])
        theirs = level_with((2, 1, ".^"), [numbered(("m", 1), ("o", 5), x=9)], [("a", "x"), ("b", "z"), ("c", "new")])
        expected = level_with((2, 1, "#^"), [numbered(("m", 2), ("o", 5), x=9)], [("b", "x"), ("c", "new")])
        self.check_merge(base, mine, theirs, expected, [(("note", "b"), "x", "y", "z")])

    def test_sizes(self):
        base = level_with((2, 2, "..##"))
        wide, high = level_with((3, 2, "..~##^")), level_with((2, 3, "..##^^"))
        self.check_merge(base, wide, base, wide, [])
        self.check_merge(base, wide, wide, wide, [])
        # Both sizes are conflicts, and so are the cells outside of the size that stays.
        self.check_merge(base, wide, high, base, [
            (("size",), (2, 2), (3, 2), (2, 3)), (("cell", 2, 0), None, "~", None), (("cell", 2, 1), None, "^", None),
            (("cell", 0, 2), None, None, "^"), (("cell", 1, 2), None, None, "^")])
        # A size that shrank, and a sign outside of it that was changed.
        self.check_merge(base, level_with((1, 2, ".#")), level_with((2, 2, ".~##")), level_with((1, 2, ".#")),
                         [(("cell", 1, 0), ".", None, "~")])
        self.check_merge(base, level_with((1, 2, "^#")), level_with((2, 2, "..#~")), level_with((1, 2, "^#")),
                         [(("cell", 1, 1), "#", None, "~")])

    def test_cells_without_a_sign(self):
        """The size stays, because both changed it, and the cells that one side took away get their signs back."""
        base = level_with((2, 2, ".^##"))
        self.check_merge(base, level_with((1, 2, ".#")), level_with((3, 2, ".^~##.")), base, [
            (("size",), (2, 2), (1, 2), (3, 2)), (("cell", 1, 0), "^", None, "^"), (("cell", 2, 0), None, None, "~"),
            (("cell", 1, 1), "#", None, "#"), (("cell", 2, 1), None, None, ".")])
        self.check_merge(base, level_with((1, 2, ".#")), level_with((2, 1, ".^")), base, [
            (("size",), (2, 2), (1, 2), (2, 1)), (("cell", 1, 0), "^", None, "^"), (("cell", 0, 1), "#", "#", None),
            (("cell", 1, 1), "#", None, None)])

    def test_values_of_things_that_went(self):
        base = level_with(things=[numbered(("m", 1), ("n", 1))])
        gone = level_with()
        self.check_merge(base, gone, base, gone, [])
        self.check_merge(base, gone, level_with(things=[numbered(("m", 2), ("n", 1))]), gone,
                         [(("value", "a", "m"), 1, None, 2)])
        self.check_merge(base, gone, level_with(things=[numbered(("m", 1), ("n", 1), ("o", 1))]), gone,
                         [(("value", "a", "o"), None, None, 1)])
        self.check_merge(base, gone, level_with(things=[numbered(("m", 1))]), gone, [])
        # The thing stays as it was, because both changed it; its values went on one side.
        self.check_merge(base, gone, level_with(things=[numbered(("m", 1), ("n", 2), x=1)]), level_with(things=[numbered(("n", 1))]),
                         [(("thing", "a"), ("k", 0, 0), None, ("k", 1, 0)), (("value", "a", "n"), 1, None, 2)])
        # A thing that both put differently is none, so its values go.
        self.check_merge(gone, level_with(things=[numbered(("m", 1), ("n", 1))]), level_with(things=[numbered(("m", 1), x=5)]), gone, [
            (("thing", "a"), None, ("k", 0, 0), ("k", 5, 0)), (("value", "a", "m"), None, 1, 1), (("value", "a", "n"), None, 1, None)])

    def check_too_large(self, base, mine, theirs):
        for sides in ((mine, theirs), (theirs, mine)):
            with self.assertRaises(TooLarge) as caught:
                merged(base, *sides)
            self.assertEqual(caught.exception.what, "level")

    def test_bounds(self):
        base = level_with(things=HUGE[:10])
        self.check_merge(base, level_with(things=HUGE[:15]), level_with(things=HUGE[:10] + HUGE[15:]), level_with(things=HUGE), [])
        more = numbered(name="z")
        self.check_too_large(base, level_with(things=HUGE[:15] + (more,)), level_with(things=HUGE[:10] + HUGE[15:]))
        # Things that go leave room.
        self.check_merge(base, level_with(things=HUGE[:15] + (more,)), level_with(things=HUGE[1:10] + HUGE[15:]),
                         level_with(things=HUGE[1:] + (more,)), [])
        self.check_merge(level_with(), level_with(things=[numbered(*NUMBERS[:3])]), level_with(things=[numbered(*NUMBERS[3:])]),
                         level_with(things=[numbered(*NUMBERS)]), [])
        self.check_too_large(level_with(), level_with(things=[numbered(*NUMBERS)]), level_with(things=[numbered(("z", 1))]))
        notes = FULL[2]
        self.check_merge(level_with(), level_with(notes=notes[:3]), level_with(notes=notes[2:]), level_with(notes=notes), [])
        self.check_too_large(level_with(), level_with(notes=notes), level_with(notes=[("z", "z")]))
        self.check_too_large(level_with(), level_with(notes=notes[:7]), level_with(notes=[("y", "z"), ("z", "z")]))
        # Seven values of which one goes with its thing do not matter.
        base = level_with(things=[numbered(*NUMBERS[:5])])
        self.check_merge(base, level_with(), level_with(things=[numbered(*NUMBERS)]), level_with(),
                         [(("value", "a", "k5"), None, None, 995)])

    def test_drawn_levels(self):
        cases = Cases(114)
        found = {}
        for _ in range(500):
            base = some_level(cases, 4)
            mine, theirs = some_variant(cases, base, 4), some_variant(cases, base, 4)
            entries, conflicts = slow_merged(base, mine, theirs)
            found[bool(conflicts)] = True
            try:
                level, split = check_pure(self, merged, base, mine, theirs)
            except TooLarge:
                counts = [sum(key[:1] == ("note",) for key in entries) > 8, sum(key[:1] == ("thing",) for key in entries) > 20]
                counts += [sum(key[:2] == ("value", name) for key in entries) > 6 for _, name in [k for k in entries if k[0] == "thing"]]
                self.assertTrue(any(counts))
                continue
            self.assertTrue(is_level(level))
            self.assertEqual((table(level), split), (entries, conflicts))
            self.assertEqual(merged(base, theirs, mine), (level, [(key, b, t, m) for key, b, m, t in split]))
            self.assertEqual(merged(base, mine, base), (mine, []))
            self.assertEqual(merged(base, base, theirs), (theirs, []))
            self.assertEqual(merged(base, mine, mine), (mine, []))
        self.assertEqual(len(found), 2)

    def test_unrelated_levels(self):
        cases = Cases(115)
        for _ in range(250):
            base, mine, theirs = (some_level(cases, 3) for _ in range(3))
            entries, conflicts = slow_merged(base, mine, theirs)
            level, split = merged(base, mine, theirs)
            self.assertEqual((table(level), split), (entries, conflicts))
            self.assertEqual(Board(level).level(), level)

    def test_arguments(self):
        check_arguments(self, merged, (LEVEL, EMPTY, LEVEL),
                        (("base", SOME_NO_LEVELS), ("mine", SOME_NO_LEVELS), ("theirs", SOME_NO_LEVELS)))


if __name__ == "__main__":
    unittest.main()
