"""Games for the tests, and steps made in another way than the program makes them."""

from alikeplay.checking import read_script
from alikeplay.coding import coded
from alikeplay.dice import dice_of, rolled
from alikeplay.games import Game
from alikeplay.machines import answered, begun, run
from scripts import wrap
from test_grids import free
from test_movers import on_sign, slow_move

COMMANDS = [
    ("me", 0), ("tick", 0), ("x", 1), ("y", 1), ("lives", 1), ("kind", 1), ("near", 1), ("touches", 2), ("key", 2),
    ("roll", 1), ("stands", 0), ("hit", 1), ("go", 2), ("place", 2), ("spawn", 3), ("leave", 0), ("score", 1), ("say", 1),
]
# Ten columns and six rows, with a floor, a shelf and a wall.
GRID = (10, 6, "." * 10 + ".......#.." + "..^^......" + "." * 20 + "#" * 10)
FIELDS = ("number", "kind", "x", "y", "vx", "vy", "hits", "machine")


def code_of(text):
    return coded(read_script(text, COMMANDS))


def game_of(*kinds, things=((0, 0, 0),), grid=GRID):
    """Make a game of kinds that are pairs of a weight and the text of a script or None; all are 8 units wide."""
    rows = tuple((f"k{index}", 8, 8, weight, None if text is None else code_of(text))
                 for index, (weight, text) in enumerate(kinds))
    return Game(grid=grid, kinds=rows, things=tuple(things))


class Slow:
    """A step of a game, word by word as point 78 tells it."""

    def __init__(self, game, state, inputs):
        self.game = game
        self.tick, self.dice, _, self.coming, self.score, things = state
        self.keys = tuple(dict(inputs).get(player, 0) for player in (1, 2, 3, 4))
        self.things = {thing[0]: dict(zip(FIELDS, thing)) for thing in things}
        self.report = []
        self.left = []

    def made(self):
        for number in sorted(self.things):
            if self.things[number]["machine"] is not None:
                self.turn(self.things[number])
        self.remove(sorted(set(self.left)))
        for thing in self.things.values():
            self.move(thing)
        self.remove([number for number, thing in sorted(self.things.items()) if not inside(self.box(thing))])
        things = tuple(tuple(thing[field] for field in FIELDS) for _, thing in sorted(self.things.items()))
        return (self.tick + 1, self.dice, self.keys, self.coming, self.score, things), tuple(self.report)

    def kind(self, thing):
        return self.game.kinds[thing["kind"]]

    def box(self, thing):
        _, width, height, _, _ = self.kind(thing)
        return thing["x"], thing["y"], thing["x"] + width, thing["y"] + height

    def remove(self, numbers):
        for number in numbers:
            del self.things[number]
            self.report.append(("gone", number))

    def turn(self, me):
        for many in range(17):
            me["machine"], event = run(self.kind(me)[4], me["machine"], 120)
            if event[0] in ("done", "stopped"):
                me["machine"] = None
            if event[0] == "stopped":
                self.report.append(("stopped", me["number"], event[1]))
            if event[0] != "asks" or many == 16:
                return
            me["machine"] = answered(me["machine"], self.answer(me, event[1], *event[2]))

    def allowed(self, kind, x, y):
        box = (x, y, x + kind[1], y + kind[2])
        return inside(box) and (kind[3] is None or free(self.game.grid, box))

    def answer(self, me, word, *values):
        if word in ("x", "y", "kind", "lives", "touches"):
            return self.look(word, *[self.things.get(value) for value in values])
        if word in ("me", "tick"):
            return me["number"] if word == "me" else self.tick
        if word == "near":
            others = [(abs(thing["x"] - me["x"]) + abs(thing["y"] - me["y"]), thing["number"])
                      for thing in self.things.values() if thing["kind"] == values[0] and thing is not me]
            return min(others)[1] if others else 0
        if word == "key":
            player, bit = values
            return int(1 <= player <= 4 and 0 <= bit <= 3 and self.keys[player - 1] // 2 ** bit % 2 == 1)
        if word == "stands":
            return int(self.kind(me)[3] is not None and on_sign(self.game.grid, self.box(me), "#^"))
        if word == "hit":
            return me["hits"][0 if values[0] == 0 else 1]
        return self.change(me, word, *values)

    def look(self, word, thing, other=None):
        if word == "lives":
            return int(thing is not None)
        if word == "touches":
            if thing is None or other is None:
                return 0
            a, b = self.box(thing), self.box(other)
            return int(a[0] < b[2] and b[0] < a[2] and a[1] < b[3] and b[1] < a[3])
        return (-1 if word == "kind" else 0) if thing is None else thing[word]

    def change(self, me, word, *values):
        if word == "roll":
            if not 1 <= values[0] <= 65536:
                return 0
            number, self.dice = rolled(self.dice, values[0])
            return number
        if word == "go":
            me["vx"], me["vy"] = [sorted((-64, value, 64))[1] for value in values]
            return 0
        if word == "place":
            if not self.allowed(self.kind(me), *values):
                return 0
            me.update(x=values[0], y=values[1], vx=0, vy=0)
            return 1
        if word == "spawn":
            return self.spawn(*values)
        if word == "leave":
            self.left.append(me["number"])
            return 1
        if word == "score":
            self.score = wrap(self.score + values[0])
            return self.score
        self.report.append(("said", me["number"], values[0]))
        return values[0]

    def spawn(self, kind, x, y):
        if not 0 <= kind < len(self.game.kinds) or not self.allowed(self.game.kinds[kind], x, y):
            return 0
        if len(self.things) >= 40:
            return 0
        code = self.game.kinds[kind][4]
        machine = None if code is None else begun(code)
        self.things[self.coming] = dict(zip(FIELDS, (self.coming, kind, x, y, 0, 0, (0, 0), machine)))
        self.report.append(("born", self.coming))
        self.coming += 1
        return self.coming - 1

    def move(self, thing):
        weight = self.kind(thing)[3]
        if weight is None:
            thing.update(x=thing["x"] + thing["vx"], y=thing["y"] + thing["vy"], hits=(0, 0))
            return
        thing["vy"] = min(64, thing["vy"] + weight)
        box, across, down = slow_move(self.game.grid, self.box(thing), thing["vx"], thing["vy"], False)
        thing.update(x=box[0], y=box[1], hits=(across, down))
        thing["vx"] = 0 if across else thing["vx"]
        thing["vy"] = 0 if down else thing["vy"]


def inside(box):
    return box[0] >= -4000 and box[1] >= -4000 and box[2] <= 4000 and box[3] <= 4000


def slow_first(game, seed):
    things = tuple(
        (index + 1, kind, x, y, 0, 0, (0, 0), None if game.kinds[kind][4] is None else begun(game.kinds[kind][4]))
        for index, (kind, x, y) in enumerate(game.things))
    return 0, dice_of(seed), (0, 0, 0, 0), len(things) + 1, 0, things


def some_value(cases, deep=2):
    """Make the text of an expression that a thing can be interested in."""
    kind = cases.whole(0, 13)
    if kind < 5 or deep == 0:
        return str(cases.one((0, 0, 1, 1, 2, 3, 4, 5, 8, 16, 40, 64, 70, 100, 3999, 65536, 70000)))
    if kind == 5:
        return "-" + some_value(cases, 0)
    if kind == 6:
        return cases.one(("n", "m"))
    if kind == 7:
        return f"@x(@me()) + {some_value(cases, 0)}"
    if kind == 8:
        return f"@y(@me()) - {some_value(cases, 0)}"
    if kind == 9:
        return f"@roll({some_value(cases, deep - 1)})"
    name, count = cases.one([pair for pair in COMMANDS if pair[0] not in ("leave", "spawn")])
    return f"@{name}({', '.join(some_value(cases, deep - 1) for _ in range(count))})"


def some_statement(cases):
    kind = cases.whole(0, 19)
    if kind < 4:
        return f"{cases.one(('n', 'm'))} = {some_value(cases)};"
    if kind < 7:
        return f"do @go({some_value(cases)}, -{some_value(cases, 0)});"
    if kind < 9:
        return f"do @place({some_value(cases)}, {some_value(cases)});"
    if kind < 12:
        return f"n = @spawn({cases.whole(-1, 4)}, @x(@me()) + {cases.whole(-9, 9)}, {some_value(cases)});"
    if kind == 12:
        return "if @roll(8) == 0 { do @leave(); }"
    if kind == 13:
        return f"do @say({some_value(cases)}); do @score({some_value(cases)});"
    if kind == 14:
        return cases.one(("wait;", "m = 40; while m > 0 { m = m - 1; }", "m = 1 div @roll(9);", "wait;"))
    if kind == 15:
        return "while @roll(3) { do @say(n); do @touches(1, n); do @near(1); do @lives(n); }"
    return f"if {some_value(cases)} < {some_value(cases)} {{ {some_statement(cases)} }}"


def some_script(cases):
    rows = " ".join(some_statement(cases) for _ in range(cases.whole(1, 7)))
    return f"var n; var m; while {cases.one(('1', '1', '@tick() < 6'))} {{ {rows} wait; }}"


def some_game(cases):
    """Make a game whose things do much; its first things lie at allowed places."""
    columns, rows = cases.whole(1, 9), cases.whole(1, 8)
    cells = "".join(cases.one("......^~##") for _ in range(columns * rows))
    grid = (columns, rows, cells)
    kinds = tuple((f"k{index}", cases.whole(1, 20), cases.whole(1, 20), cases.one((None, 0, 1, 3, 8)),
                   None if cases.whole(0, 5) == 0 else code_of(some_script(cases))) for index in range(cases.whole(1, 4)))
    things = []
    for _ in range(60):
        index = cases.whole(0, len(kinds) - 1)
        x, y = cases.whole(-20, 16 * columns), cases.whole(-30, 16 * rows)
        _, width, height, weight, _ = kinds[index]
        if len(things) < 12 and (weight is None or free(grid, (x, y, x + width, y + height))):
            things.append((index, x, y))
    return Game(grid=grid, kinds=kinds, things=tuple(things))


def some_inputs(cases):
    return tuple((player, cases.whole(0, 15)) for player in (1, 2, 3, 4) if cases.whole(0, 2))
