"""What the world of a game answers when a script asks a command."""

from alikeplay.boxes import boxes_overlap
from alikeplay.dice import rolled
from alikeplay.movers import stands
from alikeplay.places import is_allowed, is_mover
from alikeplay.running import flag
from alikeplay.whole import is_between, wrapped

# The commands, with the numbers of their arguments.
COMMANDS = (
    ("me", 0), ("tick", 0), ("x", 1), ("y", 1), ("lives", 1), ("kind", 1), ("near", 1), ("touches", 2), ("key", 2),
    ("roll", 1), ("stands", 0), ("hit", 1), ("go", 2), ("place", 2), ("spawn", 3), ("leave", 0), ("score", 1),
    ("say", 1),
)
MOST_PLAYERS = 4
MOST_KEYS = 4
MOST_ROLLED = 65536
MOST_THINGS = 40
FASTEST = 64


def answer_to(world, me, command, arguments):
    """Return what the world answers to a thing that asks the command; both may change by it."""
    action = ACTIONS[command]
    return action(world, me, arguments)


def _me(world, me, arguments):
    return me.number


def _tick(world, me, arguments):
    return world.tick


def _x(world, me, arguments):
    thing = world.thing(arguments[0])
    return 0 if thing is None else thing.x


def _y(world, me, arguments):
    thing = world.thing(arguments[0])
    return 0 if thing is None else thing.y


def _lives(world, me, arguments):
    return flag(world.thing(arguments[0]) is not None)


def _kind(world, me, arguments):
    thing = world.thing(arguments[0])
    return -1 if thing is None else thing.kind


def _near(world, me, arguments):
    """Return the number of the nearest other thing of a kind; things stand in the order of their numbers."""
    others = [thing for thing in world.things if thing.kind == arguments[0] and thing.number != me.number]
    if not others:
        return 0
    distances = [abs(thing.x - me.x) + abs(thing.y - me.y) for thing in others]
    return others[distances.index(min(distances))].number


def _touches(world, me, arguments):
    first, second = world.thing(arguments[0]), world.thing(arguments[1])
    if first is None or second is None:
        return 0
    return flag(boxes_overlap(world.box_of(first), world.box_of(second)))


def _key(world, me, arguments):
    player, key = arguments
    if not 1 <= player <= MOST_PLAYERS or not 0 <= key < MOST_KEYS:
        return 0
    return (world.row[player - 1] >> key) & 1


def _roll(world, me, arguments):
    if not is_between(arguments[0], 1, MOST_ROLLED):
        return 0
    number, world.dice = rolled(world.dice, arguments[0])
    return number


def _stands(world, me, arguments):
    return flag(is_mover(world.kind_of(me)) and stands(world.grid, world.box_of(me)))


def _hit(world, me, arguments):
    across, down = me.hits
    return across if arguments[0] == 0 else down


def _go(world, me, arguments):
    a, b = arguments
    me.vx = max(-FASTEST, min(FASTEST, a))
    me.vy = max(-FASTEST, min(FASTEST, b))
    return 0


def _place(world, me, arguments):
    a, b = arguments
    if not is_allowed(world.grid, world.kind_of(me), a, b):
        return 0
    me.x, me.y, me.vx, me.vy = a, b, 0, 0
    return 1


def _spawn(world, me, arguments):
    kind, a, b = arguments
    if not 0 <= kind < len(world.kinds) or len(world.things) >= MOST_THINGS:
        return 0
    if not is_allowed(world.grid, world.kinds[kind], a, b):
        return 0
    return world.bear(kind, a, b)


def _leave(world, me, arguments):
    me.is_leaving = True
    return 1


def _score(world, me, arguments):
    world.score = wrapped(world.score + arguments[0])
    return world.score


def _say(world, me, arguments):
    world.report.append(("said", me.number, arguments[0]))
    return arguments[0]


ACTIONS = {
    "me": _me, "tick": _tick, "x": _x, "y": _y, "lives": _lives, "kind": _kind, "near": _near, "touches": _touches,
    "key": _key, "roll": _roll, "stands": _stands, "hit": _hit, "go": _go, "place": _place, "spawn": _spawn,
    "leave": _leave, "score": _score, "say": _say,
}
