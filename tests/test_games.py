"""Points 73 to 86: games, their states and their steps."""

import unittest

from alikeplay.dice import dice_of, drawn, rolled
from alikeplay.errors import BadGame, TooLarge
from alikeplay.games import Game, box_of, first_state, is_state, step
from alikeplay.machines import answered, begun, is_machine, run
from helpers import NO_INTEGERS, NO_TUPLES, Cases, check_arguments, check_pure
from scripts import part_at, parts, replaced
from test_grids import NO_GRIDS, free
from worlds import COMMANDS, GRID, Slow, code_of, game_of, inside, slow_first, some_game, some_inputs

BALL = Game(grid=(3, 3, "......###"), kinds=(("ball", 8, 8, 1, None),), things=((0, 16, 0),))
KIND = ("k", 8, 8, None, None)
NO_SEEDS = (-1, 1000001, *NO_INTEGERS)
NO_GAMES = (None, 5, True, "game", (), (GRID, (KIND,), ()), {}, Game)
NO_INPUTS = (
    *NO_TUPLES, (1,), ((1,),), ((1, 2, 3),), ([1, 2],), [(1, 2)], ((0, 1),), ((5, 1),), ((1, -1),), ((1, 16),), ((2, 1), (1, 1)),
    ((1, 1), (1, 1)), ((1, 1), (3, 1), (2, 1)), ((True, 1),), ((1, True),), ((1, False),), ((1.0, 1),), ((1, None),),
    ((None, 1),), (("1", 1),), ((1, 1), None), ((1, 1), (2, 2), (3, 3), (4, 4), (5, 5)),
)


def played(game, steps=1, inputs=(), seed=5, state=None):
    """Make steps from the first state; return the last state and the list of the reports."""
    state = first_state(game, seed) if state is None else state
    reports = []
    for _ in range(steps):
        state, report = step(game, state, inputs)
        reports.append(report)
    return state, reports


def said(text, *others, steps=1, inputs=(), weight=None, things=((0, 0, 0),), grid=GRID):
    """Return what the things of a script say in each step, one list for each step."""
    game = game_of((weight, text), *others, things=things, grid=grid)
    return [[event[2] for event in report if event[0] == "said"] for report in played(game, steps, inputs)[1]]


def told(*expressions, **more):
    """Return what a thing says of expressions in a step."""
    return said("var a; var b; " + " ".join(f"do @say({text});" for text in expressions), **more)[0]


class GameTests(unittest.TestCase):
    def check(self, where, why, *, grid=GRID, kinds=(KIND,), things=()):
        with self.assertRaises(BadGame) as caught:
            Game(grid=grid, kinds=kinds, things=things)
        self.assertEqual((caught.exception.where, caught.exception.why), (where, why))

    def test_attributes(self):
        game = Game(grid=GRID, kinds=(KIND,), things=((0, 1, 2),))
        self.assertEqual((game.grid, game.kinds, game.things), (GRID, (KIND,), ((0, 1, 2),)))
        with self.assertRaises(TypeError):
            Game(GRID, (KIND,), ())

    def test_grids(self):
        for grid in NO_GRIDS:
            for kinds in ((KIND,), None):
                self.check(("grid",), "grid", grid=grid, kinds=kinds, things=None)

    def test_kinds(self):
        for kinds in (*NO_TUPLES, [KIND]):
            self.check(("kinds",), "form", kinds=kinds, things=None)
        eight = tuple((f"k{k}", 1, 1, None, None) for k in range(8))
        self.assertEqual(len(Game(grid=GRID, kinds=eight, things=()).kinds), 8)
        self.check(("kinds",), "many", kinds=())
        self.check(("kinds",), "many", kinds=eight + (None,), things=None)

    def check_kinds(self, why, *kinds):
        """Test that the last kind has the problem, whatever comes behind it."""
        for more in ((), (None,)):
            for things in ((), None):
                self.check(("kinds", len(kinds) - 1), why, kinds=kinds + more, things=things)

    def test_each_kind(self):
        for kind in (*NO_TUPLES, (), KIND[:4], KIND + (None,), list(KIND)):
            self.check_kinds("form", kind)
            self.check_kinds("form", KIND, kind)
        for name in ("", "K", "1", "a_", "a" * 13, None, 5, True, ("a",), ["a"]):
            self.check_kinds("name", (name, 0, 0, -1, 5))
        for name in ("k", "j", "a", "a9"):
            self.check_kinds("order", KIND, (name, 0, 0, -1, 5))
        self.check_kinds("order", ("a", 1, 1, None, None), ("b1", 1, 1, None, None), ("b", 1, 1, None, None))
        for size in (0, 65, -1, *NO_INTEGERS):
            self.check_kinds("size", KIND, ("l", size, 8, -1, 5))
            self.check_kinds("size", KIND, ("l", 8, size, -1, 5))
        for weight in (-1, 9, *[value for value in NO_INTEGERS if value is not None]):
            self.check_kinds("weight", ("l", 1, 64, weight, 5))
        for code in (True, 0, "", (), [], begun(code_of("")), (0, ((0, 0, ()),)), [0, ((0, 0, (("end",),)),)],
                     (0, ((0, 0, (("ask", "hit", 0), ("drop",), ("end",))),)),
                     (0, ((0, 0, (("ask", "jump", 0), ("drop",), ("end",))),))):
            self.check_kinds("code", ("l", 64, 1, 8, code))

    def test_kinds_in_bounds(self):
        for kind in (("a", 1, 64, 0, None), ("a23456789012", 64, 1, 8, code_of("do @me();"))):
            self.assertEqual(Game(grid=GRID, kinds=(kind,), things=()).kinds, (kind,))
        for name, count in COMMANDS:
            text = f"do @{name}({', '.join('0' * count)});"
            self.assertEqual(Game(grid=GRID, kinds=(("a", 1, 1, 1, code_of(text)),), things=()).things, ())

    def test_things(self):
        for things in (*NO_TUPLES, [(0, 0, 0)]):
            self.check(("things",), "form", things=things)
        self.assertEqual(len(Game(grid=GRID, kinds=(KIND,), things=((0, 3, 3),) * 20).things), 20)
        self.check(("things",), "many", things=((0, 3, 3),) * 20 + (None,))

    def check_thing(self, why, thing, kinds=(KIND,)):
        self.check(("things", 0), why, things=(thing,), kinds=kinds)
        self.check(("things", 1), why, things=((0, 0, 0), thing, None), kinds=kinds)

    def test_each_thing(self):
        for thing in (*NO_TUPLES, (), (0, 0), (0, 0, 0, 0), [0, 0, 0]):
            self.check_thing("form", thing)
        for value in NO_INTEGERS:
            for thing in ((value, 0, 0), (0, value, 0), (0, 0, value), (9, value, 0)):
                self.check_thing("form", thing)
        for index in (-1, 1, 10 ** 20):
            self.check_thing("kind", (index, 10 ** 9, 0))

    def test_places(self):
        kinds = (("mark", 10, 20, None, None), ("mover", 10, 20, 1, None))
        for x, y, holds in ((-4000, -4000, True), (3990, 3980, True), (-4001, 0, False), (0, -4001, False),
                            (3991, 0, False), (0, 3981, False), (10 ** 30, 0, False), (-5, 64, True)):
            if holds:
                Game(grid=GRID, kinds=kinds, things=((0, x, y),))
            else:
                self.check_thing("place", (0, x, y), kinds)
        for x, y, holds in ((0, 60, True), (0, 61, False), (150, 60, True), (151, 60, False), (-1, 0, False), (102, 0, True),
                            (103, 0, False), (102, 32, True), (118, 10, False), (0, -4000, True), (0, 96, True),
                            (0, 3980, True), (0, 3981, False), (25, 20, True)):
            if holds:
                Game(grid=GRID, kinds=kinds, things=((1, x, y),))
            else:
                self.check_thing("place", (1, x, y), kinds)


class StateTests(unittest.TestCase):
    def test_document(self):
        state = first_state(BALL, 5)
        self.assertEqual(state[5], ((1, 0, 16, 0, 0, 0, (0, 0), None),))
        state = step(BALL, state, ())[0]
        state = step(BALL, state, ((1, 3),))[0]
        self.assertEqual((state[0], state[2], state[5]), (2, (3, 0, 0, 0), ((1, 0, 16, 3, 0, 2, (0, 0), None),)))

    def test_first_states(self):
        game = game_of((None, "var a; wait;"), (1, None), things=((1, 0, 0), (0, 5, 6), (1, 9, 9)))
        self.assertEqual(first_state(game, 1000000), (0, dice_of(1000000), (0, 0, 0, 0), 4, 0, (
            (1, 1, 0, 0, 0, 0, (0, 0), None),
            (2, 0, 5, 6, 0, 0, (0, 0), ((0,), ((0, 0, (), ()),), "ready", None)),
            (3, 1, 9, 9, 0, 0, (0, 0), None))))
        self.assertEqual(first_state(game_of((None, None), things=()), 0), (0, 1, (0, 0, 0, 0), 1, 0, ()))
        cases = Cases(71)
        for seed in range(20):
            game = some_game(cases)
            self.assertEqual(first_state(game, seed), slow_first(game, seed))
            self.assertIs(is_state(game, first_state(game, seed)), True)

    def game_and_state(self):
        """Return a game with a state that has things of all kinds."""
        game = game_of((None, None), (1, "var a; func f(p) { return @x(p); } do f(3); a = f(4);"), (2, "wait;"),
                       things=((0, 5, 6),))
        code = game.kinds[1][4]
        machine = run(code, begun(code), 100)[0]
        things = ((2, 0, -4000, 70, -64, 64, (0, 0), None), (3, 1, 5, 6, 7, -8, (1, -1), machine),
                  (5, 1, 5, 6, 0, 0, (-1, 1), answered(machine, 3)), (8, 2, 0, 0, 64, -64, (0, 0), None),
                  (9, 2, 0, 0, 0, 0, (0, 0), ((), (), "done", None)))
        return game, (100000, 2147483562, (15, 0, 7, 1), 10, -2147483648, things)

    def test_states(self):
        game, state = self.game_and_state()
        self.assertIs(is_state(game, state), True)
        self.assertIs(is_state(game, (0, 1, (0, 0, 0, 0), 1, 2147483647, ())), True)
        for coming in (0, -1):
            self.assertIs(is_state(game, (0, 1, (0, 0, 0, 0), coming, 0, ())), False)
        thing = (1, 0, 0, 0, 0, 0, (0, 0), None)
        for kind, holds in ((0, True), (-1, False), (1, False)):
            state = (0, 1, (0, 0, 0, 0), 2, 0, (replaced(thing, (1,), kind),))
            self.assertIs(is_state(game_of((None, None)), state), holds)
        forty = tuple((k, 0, 0, 0, 0, 0, (0, 0), None) for k in range(1, 41))
        self.assertIs(is_state(game, (0, 1, (0, 0, 0, 0), 41, 0, forty)), True)
        self.assertIs(is_state(game, (0, 1, (0, 0, 0, 0), 42, 0, forty + ((41, *forty[0][1:]),))), False)
        self.assertIs(is_state(game, (0, 1, (0, 0, 0, 0), 10 ** 30 + 1, 0, ((10 ** 30, *forty[0][1:]),))), True)

    def test_wrong_numbers(self):
        game, state = self.game_and_state()
        for path, values in (
            ((0,), (-1, 100001)), ((1,), (0, -1, 2147483563)), ((2, 1), (-1, 16)), ((3,), (0, -1, 9, 8, 5)),
            ((4,), (2147483648, -2147483649)), ((5, 0, 0), (0, -1, 3, 4)), ((5, 1, 0), (2, 1, 5, 6)), ((5, 4, 0), (8, 10, 11)),
            ((5, 0, 1), (-1, 3, 10 ** 9)), ((5, 4, 1), (1,)), ((5, 0, 2), (-4001, 3993, 4000, 10 ** 30)), ((5, 0, 3), (-4001, 3993)),
            ((5, 1, 2), (-1, 153)), ((5, 1, 3), (73, 80)), ((5, 0, 4), (65, -65)), ((5, 0, 5), (65, -65)),
            ((5, 1, 6, 0), (2, -2)), ((5, 1, 6, 1), (2, -2)), ((5, 1, 7), (begun(game.kinds[2][4]), ())),
            ((5, 0, 7), (begun(game.kinds[2][4]), ())), ((5, 3, 7), (begun(game.kinds[1][4]),)),
        ):
            for value in values:
                self.assertIs(is_state(game, replaced(state, path, value)), False, (path, value))

    def test_no_part_can_be_of_another_kind(self):
        game, state = self.game_and_state()
        for path in parts(state):
            part = part_at(state, path)
            others = [True, 1.5, {}, [], "", "odd", 2 ** 70, -2 ** 70, None, ()]
            if isinstance(part, tuple):
                others += [list(part), (*part, part), (*part, 0)]
            for other in others:
                if other is part or path == (3,) and other == 2 ** 70 or path == (5,) and other == ():
                    continue
                if len(path) == 3 and path[0] == 5 and path[2] == 7 and other is None:
                    continue
                self.assertIs(is_state(game, replaced(state, path, other)), False, (path, other))

    def test_order(self):
        game, state = self.game_and_state()
        things = state[5]
        for some in (things[::-1], things + things[-1:], things[1:2] + things[:1], things[:1] * 2):
            self.assertIs(is_state(game, (*state[:5], some)), False)
        self.assertIs(is_state(game, (*state[:5], things[1:3])), True)

    def test_machines_that_a_step_can_not_reach(self):
        """A state may have machines that are done or stopped; their things have none behind the next step."""
        game = game_of((None, "wait;"))
        for mode, events in (("done", ()), ("division", (("stopped", 1, "division"),)), ("deep", (("stopped", 1, "deep"),))):
            state = (0, 1, (0, 0, 0, 0), 2, 0, ((1, 0, 0, 0, 0, 0, (0, 0), ((), (), mode, None)),))
            after, report = step(game, state, ())
            self.assertEqual((after[5][0][7], report), (None, events))

    def test_boxes(self):
        game = Game(grid=GRID, kinds=(("a", 3, 64, None, None), ("b", 64, 5, 1, None)), things=((0, -9, 7), (1, 3, 9)))
        things = first_state(game, 0)[5]
        self.assertEqual([box_of(game, thing) for thing in things], [(-9, 7, -6, 71), (3, 9, 67, 14)])


class CommandTests(unittest.TestCase):
    """Each command of point 80, with good, bad and far arguments."""

    def test_me_and_tick(self):
        self.assertEqual(said("while 1 { do @say(@me()); do @say(@tick()); wait; }", things=((0, 0, 0), (0, 1, 1)), steps=3),
                         [[1, 0, 2, 0], [1, 1, 2, 1], [1, 2, 2, 2]])

    def test_looking(self):
        things = ((0, -3, 9), (1, 7, -8))
        for name, one, two, none in (("x", -3, 7, 0), ("y", 9, -8, 0), ("lives", 1, 1, 0), ("kind", 0, 1, -1)):
            texts = [f"@{name}({t})" for t in ("1", "2", "3", "0", "-1", "2147483647", "-2147483647 - 1")]
            script = "".join(f"do @say({text});" for text in texts)
            self.assertEqual(said(script, (None, None), things=things)[0], [one, two] + [none] * 5)

    def test_what_is_there(self):
        """Things that are born or leave in a step are there until its phases 2 and 3 are over."""
        text = """if @me() == 1 { do @spawn(0, 50, 60); do @say(@x(3)); do @leave(); do @say(@lives(1)); }
                  if @me() == 2 { do @say(@lives(1)); do @say(@y(3)); do @say(@near(0)); do @say(@touches(1, 2)); }
                  wait; do @say(@lives(1) + 2 * @lives(3)); wait;"""
        # The thing 3 has its first turn in the second step.
        self.assertEqual(said(text, things=((0, 0, 0), (0, 1, 1)), steps=3), [[50, 1, 1, 60, 1, 1], [2], [2]])

    def test_near(self):
        things = ((0, 0, 0), (1, 10, 0), (1, -4, 5), (1, 9, 0), (2, 0, 0), (0, 3, 3), (0, -3, 3))
        more = ((None, None), (None, None))
        text = "if @me() == 1 { do @say(@near(0)); do @say(@near(1)); do @say(@near(2)); do @say(@near(3)); do @say(@near(-1)); }"
        self.assertEqual(said(text, *more, things=things)[0], [6, 3, 5, 0, 0])
        self.assertEqual(said("do @say(@near(0));", things=((0, 5, 5),))[0], [0])
        self.assertEqual(said("do @say(@near(0));", things=((0, 5, 5),) * 3)[0], [2, 1, 1])
        self.assertEqual(said("if @me() == 1 { do @say(@near(1)); }", (None, None), things=((0, 0, 0), (1, 3, 4), (1, -7, 0)))[0],
                         [2])

    def test_touches(self):
        things = ((0, 0, 0), (0, 7, 7), (0, 8, 0), (0, 0, 8), (0, -7, 0), (0, -8, 3))
        self.assertEqual(said("if @me() == 1 { " + "".join(f"do @say(@touches(1, {k}));" for k in range(7)) + "}",
                              things=things)[0], [0, 1, 1, 0, 0, 1, 0])
        self.assertEqual(told("@touches(2, 1)", "@touches(9, 1)", "@touches(9, 9)", "@touches(-1, -1)"), [0, 0, 0, 0])

    def test_keys(self):
        inputs = ((1, 5), (2, 15), (4, 8))
        texts = [f"@key({p}, {b})" for p in (1, 2, 3, 4) for b in (0, 1, 2, 3)]
        self.assertEqual(told(*texts[:8], inputs=inputs), [1, 0, 1, 0, 1, 1, 1, 1])
        self.assertEqual(told(*texts[8:], inputs=inputs), [0, 0, 0, 0, 0, 0, 0, 1])
        bad = ["@key(0, 0)", "@key(5, 0)", "@key(2, 4)", "@key(2, -1)", "@key(-1, 0)", "@key(2, 2147483647)", "@key(-3, 0)"]
        self.assertEqual(told(*bad, inputs=((1, 15), (2, 15), (3, 15), (4, 15))), [0] * 7)
        self.assertEqual(told("@key(1, 0)"), [0])

    def test_roll(self):
        for n in (1, 6, 65536):
            state, reports = played(game_of((None, f"do @say(@roll({n}));")), seed=77)
            number, dice = rolled(dice_of(77), n)
            self.assertEqual((state[1], reports[0]), (dice, (("said", 1, number),)))
        for n in ("0", "-1", "65537", "2147483647"):
            state, reports = played(game_of((None, f"do @say(@roll({n}));")), seed=77)
            self.assertEqual((state[1], reports[0]), (dice_of(77), (("said", 1, 0),)))
        number, dice = rolled(dice_of(5), 100)
        self.assertEqual(told("@roll(100)", "@roll(100)"), [number, rolled(dice, 100)[0]])

    def test_stands(self):
        for weight, x, y, wanted in ((1, 0, 72, 1), (1, 0, 71, 0), (1, 30, 24, 1), (1, 30, 23, 0), (1, 0, 8, 0), (0, 112, 8, 1),
                                     (None, 0, 72, 0), (0, 0, 96, 0), (1, 20, 24, 0)):
            self.assertEqual(told("@stands()", weight=weight, things=((0, x, y),)), [wanted], (x, y))

    def test_hit(self):
        text = "do @go(SPEED); while 1 { wait; do @say(@hit(0)); do @say(@hit(1)); do @say(@hit(-5)); }"
        for speed, weight, x, y, wanted in (("9, 0", 0, 100, 30, [1, 0, 0]), ("-9, 0", 0, 4, 30, [-1, 0, 0]),
                                            ("0, 60", 1, 0, 70, [0, 1, 1]), ("0, -9", 0, 115, 33, [0, -1, -1]),
                                            ("3, 3", 0, 20, 20, [0, 0, 0]), ("9, 9", None, 100, 70, [0, 0, 0])):
            self.assertEqual(said(text.replace("SPEED", speed), steps=2, weight=weight, things=((0, x, y),))[1], wanted)

    def test_go(self):
        for a, b, wanted in (("5", "-7", (5, -7)), ("64", "-64", (64, -64)), ("65", "-65", (64, -64)),
                             ("-2147483647", "2147483647", (-64, 64)), ("0", "0", (0, 0))):
            state, reports = played(game_of((None, f"do @say(@go({a}, {b}));")))
            self.assertEqual((state[5][0][4:6], reports[0]), (wanted, (("said", 1, 0),)))
            self.assertEqual(state[5][0][2:4], wanted)

    def test_place(self):
        for weight, a, b, holds in ((None, -4000, -4000, 1), (None, 3992, 3992, 1), (None, 3993, 0, 0), (None, -4001, 0, 0),
                                    (None, 0, 3993, 0), (None, 0, 2147483647, 0), (None, 5, 75, 1), (1, 5, 75, 0), (1, 5, 72, 1),
                                    (1, -1, 0, 0), (1, 104, 20, 1), (1, 105, 20, 0), (1, 2147483647, 5, 0)):
            game = game_of((weight, f"do @go(3, 1); do @say(@place({a}, {b})); do @say(@x(1)); do @say(@y(1)); wait;"),
                           things=((0, 40, 40),))
            state, reports = played(game)
            wanted = [holds, a, b] if holds else [0, 40, 40]
            self.assertEqual([event[2] for event in reports[0]], wanted)
            if weight is None:
                self.assertEqual(state[5][0][2:6], (a, b, 0, 0) if holds else (43, 41, 3, 1))
            elif holds == 0:
                self.assertEqual(state[5][0][2:6], (43, 42, 3, 2))

    def test_place_keeps_hits(self):
        text = "do @go(9, 0); wait; do @place(0, 0); do @say(@hit(0)); wait;"
        self.assertEqual(said(text, steps=2, weight=0, things=((0, 100, 30),))[1], [1])

    def test_spawn(self):
        game = game_of((None, "if @me() == 1 { do @say(@spawn(1, 4, 5)); do @say(@spawn(0, 6, -7)); }"),
                       (3, "do @say(@me() + 100); wait;"))
        state, reports = played(game, 2)
        self.assertEqual(reports, [(("born", 2), ("said", 1, 2), ("born", 3), ("said", 1, 3)), (("said", 2, 102),)])
        self.assertEqual(state[3], 4)
        machine = begun(game.kinds[1][4])
        self.assertEqual(played(game)[0][5][1], (2, 1, 4, 8, 0, 3, (0, 0), machine))
        self.assertEqual(played(game)[0][5][2], (3, 0, 6, -7, 0, 0, (0, 0), begun(game.kinds[0][4])))

    def test_spawn_of_nothing(self):
        for arguments in ("-1, 0, 0", "2, 0, 0", "2147483647, 0, 0", "0, 3993, 0", "0, 0, -4001", "1, 5, 73", "1, -1, 0",
                          "1, 2147483647, 0"):
            game = game_of((None, f"do @say(@spawn({arguments}));"), (1, None))
            state, reports = played(game)
            self.assertEqual((state[3], len(state[5]), reports[0]), (2, 1, (("said", 1, 0),)))
        self.assertEqual(told("@spawn(0, 3992, -4000)"), [2])

    def test_forty_things(self):
        """The fortieth thing is born; one that leaves in this step still takes a place."""
        text = "var n; while n < 13 { do @spawn(1, 0, 0); n = n + 1; } do @leave(); do @say(@spawn(1, 0, 0)); wait;"
        game = game_of((None, text), (None, None), things=((0, 0, 0),) * 3)
        state, reports = played(game)
        born = [event for event in reports[0] if event[0] == "born"]
        self.assertEqual(born, [("born", k) for k in range(4, 41)])
        self.assertEqual([event[2] for event in reports[0] if event[0] == "said"], [17, 31, 0])
        self.assertEqual([event for event in reports[0] if event[0] == "gone"], [("gone", 1), ("gone", 2), ("gone", 3)])
        self.assertEqual((len(state[5]), state[3]), (37, 41))

    def test_leave(self):
        game = game_of((None, "do @say(@leave()); do @say(@leave()); do @say(@spawn(1, 0, 0)); do @go(4000, 0); wait;"),
                       (None, None), things=((0, 3990, 0), (0, 1, 1)))
        state, reports = played(game)
        self.assertEqual(reports[0], (("said", 1, 1), ("said", 1, 1), ("born", 3), ("said", 1, 3), ("said", 2, 1), ("said", 2, 1),
                                      ("born", 4), ("said", 2, 4), ("gone", 1), ("gone", 2)))
        self.assertEqual([thing[0] for thing in state[5]], [3, 4])

    def test_score(self):
        text = "do @say(@score(5)); do @say(@score(-7)); do @say(@score(-2147483647)); do @say(@score(0)); wait;"
        state, reports = played(game_of((None, text)))
        self.assertEqual([event[2] for event in reports[0]], [5, -2, 2147483647, 2147483647])
        self.assertEqual(state[4], 2147483647)
        self.assertEqual(told("@score(2147483647)", "@score(1)"), [2147483647, -2147483648])

    def test_say(self):
        game = game_of((None, "do @say(@say(-4) + 1);"), things=((0, 0, 0), (0, 0, 0)))
        self.assertEqual(played(game)[1][0], (("said", 1, -4), ("said", 1, -3), ("said", 2, -4), ("said", 2, -3)))

    def test_commands_see_what_others_have_changed(self):
        text = """if @me() == 2 { do @place(40, 0); do @go(2, 0); do @score(3); } do @say(@x(2)); do @say(@score(0)); wait;"""
        self.assertEqual(said(text, things=((0, 0, 0), (0, 8, 0), (0, 0, 0)))[0], [8, 0, 40, 3, 40, 3])


class TurnTests(unittest.TestCase):
    def test_waiting_and_done(self):
        game = game_of((None, "do @say(1); wait; do @say(2);"))
        state, reports = played(game, 1)
        self.assertIs(is_machine(game.kinds[0][4], state[5][0][7]), True)
        state, reports = played(game, 3)
        self.assertEqual((state[5][0][7], reports), (None, [(("said", 1, 1),), (("said", 1, 2),), ()]))

    def test_stopped(self):
        for text, why in (("do 1 div 0;", "division"), ("func f() { do f(); } do f();", "deep")):
            state, reports = played(game_of((None, text)), 2)
            self.assertEqual(reports, [(("stopped", 1, why),), ()])
            self.assertIs(state[5][0][7], None)

    def test_budget(self):
        """120 instructions in a turn, and 120 again behind each answer."""
        code = code_of("var n; while 1 { n = n + 1; }")
        game = Game(grid=GRID, kinds=(("k", 8, 8, None, code),), things=((0, 0, 0),))
        for steps in (1, 2, 5):
            machine = played(game, steps)[0][5][0][7]
            self.assertEqual(machine, run(code, begun(code), 120 * steps)[0])

    def test_budget_at_its_edge(self):
        """The 120th instruction asks, the 121st does not."""
        for many, first, second in ((59, [7], []), (60, [], [7])):
            self.assertEqual(said("do 1; " * many + "do @say(7); wait;", steps=2), [first, second])
        row = "do 1; " * 59
        self.assertEqual(said(row + "do @say(1); do 1; " + "do 1; " * 58 + "do @say(2); wait;", steps=2)[0], [1])
        self.assertEqual(said(row + "do @say(1); " + "do 1; " * 58 + "do @say(2); wait;", steps=2), [[1, 2], []])

    def test_sixteen_commands(self):
        for many in (15, 16, 17, 33):
            text = "".join(f"do @say({k}); " for k in range(many)) + "wait;"
            rows = [list(range(many))[at:at + 16] for at in (0, 16, 32)]
            self.assertEqual(said(text, steps=3), rows)

    def test_the_seventeenth_is_answered_first_in_the_next_turn(self):
        text = "do @me(); " * 16 + "do @say(@tick()); do @say(@key(1, 0)); wait; do @say(9);"
        game = game_of((None, text))
        state, report = step(game, first_state(game, 0), ())
        self.assertEqual((report, state[5][0][7][2:]), ((), ("asking", ("tick", ()))))
        state, report = step(game, state, ((1, 1),))
        self.assertEqual(report, (("said", 1, 1), ("said", 1, 1)))
        self.assertEqual(step(game, state, ())[1], (("said", 1, 9),))

    def test_a_pending_command_counts(self):
        text = "do @me(); " * 16 + "".join(f"do @say({k}); " for k in range(17)) + "wait;"
        self.assertEqual(said(text, steps=3), [[], list(range(16)), [16]])

    def test_order_of_turns(self):
        text = "if @me() == 1 { do @spawn(0, 0, 0); } do @say(@me()); wait; do @say(-@me());"
        self.assertEqual(said(text, things=((0, 0, 0), (0, 0, 0)), steps=2), [[1, 2], [-1, -2, 3]])

    def test_keys_are_those_of_the_step(self):
        game = game_of((None, "while 1 { do @say(@key(3, 1)); wait; }"))
        state = first_state(game, 0)
        for inputs, wanted in ((((3, 2),), 1), ((), 0), (((1, 15), (3, 15)), 1), (((3, 13),), 0)):
            state, report = step(game, state, inputs)
            self.assertEqual(report, (("said", 1, wanted),))
            self.assertEqual(state[2][2], dict(inputs).get(3, 0))


class MoveTests(unittest.TestCase):
    def one(self, weight, x, y, vx, vy, size=8, steps=1):
        """Return the places, speeds and hits of a thing at each step, and the last report."""
        game = Game(grid=GRID, kinds=(("k", size, size, weight, None),), things=())
        state = (0, 1, (0, 0, 0, 0), 2, 0, ((1, 0, x, y, vx, vy, (0, 0), None),))
        for _ in range(steps):
            state, report = step(game, state, ())
        return state[5][0][2:7] if state[5] else report

    def test_marks(self):
        self.assertEqual(self.one(None, 0, 70, -64, 64), (-64, 134, -64, 64, (0, 0)))
        self.assertEqual(self.one(None, 110, 8, 3, 0), (113, 8, 3, 0, (0, 0)))

    def test_weight(self):
        self.assertEqual(self.one(0, 0, 0, 0, 0), (0, 0, 0, 0, (0, 0)))
        self.assertEqual(self.one(3, 0, 0, 2, 1), (2, 4, 2, 4, (0, 0)))
        self.assertEqual(self.one(3, 0, 0, 2, 1, steps=3), (6, 21, 2, 10, (0, 0)))
        self.assertEqual(self.one(8, 0, -900, 0, 60), (0, -836, 0, 64, (0, 0)))
        self.assertEqual(self.one(8, 0, -900, 0, 64), (0, -836, 0, 64, (0, 0)))
        self.assertEqual(self.one(8, 0, 40, 0, -8), (0, 40, 0, 0, (0, 0)))

    def test_hits(self):
        self.assertEqual(self.one(1, 100, 20, 9, 0), (104, 21, 0, 1, (1, 0)))
        self.assertEqual(self.one(0, 4, 8, -9, 3), (0, 11, 0, 3, (-1, 0)))
        self.assertEqual(self.one(1, 20, 70, 2, 5), (22, 72, 2, 0, (0, 1)))
        self.assertEqual(self.one(0, 115, 33, -3, -9), (112, 32, -3, 0, (0, -1)))
        self.assertEqual(self.one(0, 148, 70, 64, 64), (152, 72, 0, 0, (1, 1)))
        self.assertEqual(self.one(1, 20, 72, 0, 0, steps=2), (20, 72, 0, 0, (0, 1)))

    def test_shelves_are_not_passed(self):
        self.assertEqual(self.one(1, 40, 10, 0, 30), (40, 24, 0, 0, (0, 1)))
        self.assertEqual(self.one(0, 40, 60, 0, -50), (40, 10, 0, -50, (0, 0)))

    def test_falling_out_of_the_world(self):
        self.assertEqual(self.one(None, 3992, 0, 0, 0), (3992, 0, 0, 0, (0, 0)))
        for x, y, vx, vy in ((3992, 0, 1, 0), (-4000, 0, -1, 0), (0, 3992, 0, 1), (0, -4000, 0, -1)):
            self.assertEqual(self.one(None, x, y, vx, vy), (("gone", 1),))
        self.assertEqual(self.one(1, 40, 3992, 0, -1), (40, 3992, 0, 0, (0, 0)))
        self.assertEqual(self.one(1, 40, 3992, 0, 0), (("gone", 1),))

    def test_the_order_of_events(self):
        """Words of turns, then what left, then what fell out, each by its numbers."""
        text = """if @me() == 3 { do @leave(); do @spawn(0, 3992, 0); do @spawn(1, 3992, 0); }
                  if @me() == 1 { do @place(3992, 5); } if @me() == 2 { do @leave(); do @leave(); }
                  do @go(@me(), 0); do @say(@me()); do 1 div 0;"""
        game = game_of((None, text), (None, None), things=((0, 0, 0),) * 3)
        state, reports = played(game, 2)
        self.assertEqual(reports[0], (
            ("said", 1, 1), ("stopped", 1, "division"), ("said", 2, 2), ("stopped", 2, "division"), ("born", 4), ("born", 5),
            ("said", 3, 3), ("stopped", 3, "division"), ("gone", 2), ("gone", 3), ("gone", 1)))
        self.assertEqual(reports[1], (("said", 4, 4), ("stopped", 4, "division"), ("gone", 4)))
        self.assertEqual([thing[0] for thing in state[5]], [5])

    def test_born_and_gone_in_one_step(self):
        """A mover that is born at the lower edge of the world falls out in the same step."""
        game = game_of((None, "do @spawn(1, 0, 3992); wait;"), (1, "do @say(1);"))
        state, reports = played(game, 2)
        self.assertEqual(reports, [(("born", 2), ("gone", 2)), ()])
        self.assertEqual((state[3], len(state[5])), (3, 1))


class LawTests(unittest.TestCase):
    def test_word_by_word(self):
        """Games in which things do much go on as another program says; and what point 81 says holds."""
        cases = Cases(72)
        events = {}
        for seed in range(40):
            game = some_game(cases)
            state, most = first_state(game, seed), 0
            for _ in range(15):
                inputs = some_inputs(cases)
                wanted = Slow(game, state, inputs).made()
                found = step(game, state, inputs)
                self.assertEqual(found, wanted)
                state = found[0]
                for event in found[1]:
                    events[event[0]] = events.get(event[0], 0) + 1
                most = self.check_state(game, state, found[1], most)
        self.assertEqual(sorted(events), ["born", "gone", "said", "stopped"])
        self.assertGreater(min(events.values()), 5)

    def check_state(self, game, state, report, most):
        self.assertIs(is_state(game, state), True)
        for number, kind, x, y, vx, vy, _, _ in state[5]:
            _, width, height, weight, _ = game.kinds[kind]
            box = (x, y, x + width, y + height)
            self.assertTrue(inside(box) and max(abs(vx), abs(vy)) <= 64)
            self.assertTrue(weight is None or free(game.grid, box))
        born = [event[1] for event in report if event[0] == "born"]
        self.assertTrue(all(number > most for number in born))
        return max([most, *born])

    def test_what_is_stopped_tells_only_itself(self):
        cases = Cases(73)
        stopped, done = code_of("do 1 div 0;"), code_of("")
        for seed in range(15):
            game = some_game(cases)
            index = cases.whole(0, len(game.kinds) - 1)
            runs = []
            for code in (stopped, done):
                kinds = replaced(game.kinds, (index, 4), code)
                other = Game(grid=game.grid, kinds=kinds, things=game.things)
                inputs = Cases(seed)
                state, rows = first_state(other, seed), []
                for _ in range(12):
                    state, report = step(other, state, some_inputs(inputs))
                    rows.append((state, [event for event in report
                                         if event[0] != "stopped" or self.kind_of(event, state) != index]))
                runs.append(rows)
            self.assertEqual([state for state, _ in runs[0]], [state for state, _ in runs[1]])
            self.assertEqual(*[[[event for event in report if event[0] != "stopped"] for _, report in rows] for rows in runs])

    def kind_of(self, event, state):
        return {thing[0]: thing[1] for thing in state[5]}.get(event[1])

    def test_commands_that_change_nothing(self):
        quiet = [pair for pair in COMMANDS if pair[0] not in ("roll", "go", "place", "spawn", "leave", "score", "say")]
        self.assertEqual(len(quiet), 11)
        for name, count in quiet:
            for value in ("1", "0", "-1", "2", "2147483647"):
                text = f"do @{name}({', '.join([value] * count)}); wait;"
                states = []
                for some in (text, "wait;"):
                    state, reports = played(game_of((1, some), (None, None), things=((0, 20, 30), (1, 20, 30))), inputs=((1, 9),))
                    self.assertEqual(reports, [()])
                    states.append(replaced(state, (5, 0, 7), None))
                self.assertEqual(*states)

    def test_states_without_machines(self):
        """Dice, scores and ticks do not matter for things without machines; and a mirror image goes on as one."""
        cases = Cases(74)
        mirrored = 0
        for seed in range(40):
            game = some_game(cases)
            kinds = tuple((*kind[:4], None) for kind in game.kinds)
            game = Game(grid=game.grid, kinds=kinds, things=game.things)
            things = tuple((*thing[:4], cases.whole(-64, 64), cases.whole(-64, 64), (0, 0), None)
                           for thing in first_state(game, 0)[5])
            state = (0, 5, (0, 0, 0, 0), 50, 0, things)
            other = (777, 99, (1, 2, 3, 4), 50, -6, things)
            mirror = Game(grid=mirror_grid(game.grid), kinds=kinds, things=())
            image = (3, 4, (0, 0, 0, 0), 60, 1, self.image(game, things))
            self.assertIs(is_state(mirror, image), True)
            for _ in range(12):
                state, report = step(game, state, ())
                other, again = step(game, other, ((2, 5),))
                self.assertEqual((state[5], report), (other[5], again))
                if report:
                    break
                image = step(mirror, image, ())[0]
                self.assertEqual(image[5], self.image(game, state[5]))
                mirrored += 1
        self.assertGreater(mirrored, 100)

    def image(self, game, things):
        wide = 16 * game.grid[0]
        return tuple((number, kind, wide - x - game.kinds[kind][1], y, -vx, vy, (-across, down), machine)
                     for number, kind, x, y, vx, vy, (across, down), machine in things)


def mirror_grid(grid):
    columns, rows, cells = grid
    return columns, rows, "".join(cells[columns * row:columns * row + columns][::-1] for row in range(rows))


class ErrorTests(unittest.TestCase):
    def test_errors(self):
        state = first_state(BALL, 5)
        thing = state[5][0]
        no_states = [*NO_TUPLES, (), state[:5], (*state, 0), [*state], thing, (state,), replaced(state, (0,), 100001),
                     replaced(state, (5,), [thing]), replaced(state, (5, 0, 2), 41)]
        no_things = [*NO_TUPLES, (), thing[:7], (*thing, None), [*thing], (thing,), (0, *thing[1:]), (True, *thing[1:]),
                     replaced(thing, (1,), 1), replaced(thing, (2,), 41), replaced(thing, (4,), 65), replaced(thing, (6,), [0, 0]),
                     replaced(thing, (7,), ((), (), "done", None))]
        check_arguments(self, first_state, (BALL, 1000000), (("game", NO_GAMES), ("seed", NO_SEEDS)))
        check_arguments(self, box_of, (BALL, (10 ** 9, *thing[1:])), (("game", NO_GAMES), ("thing", no_things)))
        check_arguments(self, lambda game: is_state(game, state), (BALL,), (("game", NO_GAMES),))
        full = ((1, 15), (2, 0), (3, 1), (4, 15))
        check_arguments(self, step, (BALL, state, full), (("game", NO_GAMES), ("state", no_states), ("inputs", NO_INPUTS)))
        for value in no_states:
            self.assertIs(is_state(BALL, value), False)

    def test_the_last_tick(self):
        state = first_state(BALL, 5)
        after, report = step(BALL, (99999, *state[1:]), ())
        self.assertEqual((after[0], report), (100000, ()))
        with self.assertRaises(TooLarge) as caught:
            step(BALL, after, ((4, 4),))
        self.assertEqual(caught.exception.what, "ticks")
        check_arguments(self, lambda inputs: step(BALL, state, inputs), ((),), (("inputs", NO_INPUTS),))
        for inputs in NO_INPUTS:
            with self.assertRaises(ValueError) as caught:
                step(BALL, after, inputs)
            self.assertEqual(getattr(caught.exception, "name", None), "inputs")

    def test_nothing_is_changed(self):
        game = game_of((1, "while 1 { do @roll(3); do @spawn(0, 9, 9); wait; }"))
        state = check_pure(self, first_state, game, 5)
        check_pure(self, step, game, state, ((1, 1),))
        self.assertEqual(drawn(state[1]), step(game, state, ())[0][1])


if __name__ == "__main__":
    unittest.main()
