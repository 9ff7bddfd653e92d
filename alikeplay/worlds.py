"""The world of a game while a step is made."""

from alikeplay.asking import FASTEST, answer_to
from alikeplay.movers import moved
from alikeplay.places import box_at, is_in_world, is_mover
from alikeplay.running import begin, behind_answer, gone_on

TURN_BUDGET = 120
MOST_ANSWERS = 16


def stepped(game, state, row):
    """Return the state behind a step with a row of keys, and the report."""
    world = World(game, state, row)
    world.take_turns()
    world.drop([thing.number for thing in world.things if thing.is_leaving])
    for thing in world.things:
        world.move(thing)
    world.drop([thing.number for thing in world.things if not is_in_world(world.box_of(thing))])
    return world.state(), tuple(world.report)


class Thing:
    """A thing of the world."""

    def __init__(self, told):
        self.number, self.kind, self.x, self.y, self.vx, self.vy, self.hits, self.machine = told
        self.is_leaving = False

    def told(self):
        """Return the thing as a tuple."""
        return self.number, self.kind, self.x, self.y, self.vx, self.vy, self.hits, self.machine


def first_thing(number, kinds, kind, x, y):
    """Return a thing that begins to live, as a tuple."""
    code = kinds[kind][4]
    return number, kind, x, y, 0, 0, (0, 0), None if code is None else begin(code)


class World:
    """A state of a game that changes; its things are those that are there, in the order of their numbers."""

    def __init__(self, game, state, row):
        self.grid = game.grid
        self.kinds = game.kinds
        self.tick, self.dice, _, self.coming, self.score, things = state
        self.row = row
        self.things = [Thing(told) for told in things]
        self.numbered = {thing.number: thing for thing in self.things}
        self.report = []

    def state(self):
        """Return the state behind the step."""
        things = tuple([thing.told() for thing in self.things])
        return self.tick + 1, self.dice, self.row, self.coming, self.score, things

    def thing(self, number):
        """Return the thing with the number, or None if it is not there."""
        return self.numbered.get(number, None)

    def kind_of(self, thing):
        """Return the kind of a thing."""
        return self.kinds[thing.kind]

    def box_of(self, thing):
        """Return the box of a thing."""
        return box_at(self.kind_of(thing), thing.x, thing.y)

    def bear(self, kind, x, y):
        """Let a thing be born, and return its number."""
        thing = Thing(first_thing(self.coming, self.kinds, kind, x, y))
        self.coming += 1
        self.things.append(thing)
        self.numbered[thing.number] = thing
        self.report.append(("born", thing.number))
        return thing.number

    def drop(self, numbers):
        """Let things be gone."""
        for number in numbers:
            self.report.append(("gone", number))
        self.things = [thing for thing in self.things if thing.number not in numbers]

    def take_turns(self):
        """Let each thing with a machine have its turn, but those that are born meanwhile."""
        for thing in list(self.things):
            if thing.machine is not None:
                self._take_turn(thing)

    def _take_turn(self, thing):
        event = self._go_on(thing)
        left = MOST_ANSWERS
        while event[0] == "asks" and left > 0:
            _, command, arguments = event
            thing.machine = behind_answer(thing.machine, answer_to(self, thing, command, arguments))
            left -= 1
            event = self._go_on(thing)
        if event[0] == "done" or event[0] == "stopped":
            thing.machine = None
        if event[0] == "stopped":
            self.report.append(("stopped", thing.number, event[1]))

    def _go_on(self, thing):
        """Let the machine of a thing go on, and return its event."""
        thing.machine, event = gone_on(self.kind_of(thing)[4], thing.machine, TURN_BUDGET)
        return event

    def move(self, thing):
        """Move a thing by its speed."""
        if not is_mover(self.kind_of(thing)):
            thing.x, thing.y, thing.hits = thing.x + thing.vx, thing.y + thing.vy, (0, 0)
            return
        thing.vy = min(FASTEST, thing.vy + self.kind_of(thing)[3])
        box, across, down = moved(self.grid, self.box_of(thing), thing.vx, thing.vy, False)
        thing.x, thing.y, _, _ = box
        thing.hits = across, down
        if across != 0:
            thing.vx = 0
        if down != 0:
            thing.vy = 0
