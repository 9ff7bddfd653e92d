"""Which values are states of a game, seeds, rows of keys and inputs."""

from alikeplay.asking import FASTEST, MOST_PLAYERS, MOST_THINGS
from alikeplay.checks import is_tuple
from alikeplay.codes import is_value
from alikeplay.dice import is_dice
from alikeplay.places import is_allowed
from alikeplay.whole import is_between, is_whole

MOST_TICKS = 100000
GREATEST_SEED = 1000000
GREATEST_KEYS = 15


def is_seed(value):
    """Tell whether the value is the seed of a first state."""
    return is_between(value, 0, GREATEST_SEED)


def is_row(value):
    """Tell whether the value is a row of keys."""
    return is_tuple(value, MOST_PLAYERS) and all(is_between(keys, 0, GREATEST_KEYS) for keys in value)


def is_inputs(value):
    """Tell whether the value is the inputs of a step."""
    if not isinstance(value, tuple):
        return False
    last = 0
    for pair in value:
        if not is_tuple(pair, 2) or not is_between(pair[0], last + 1, MOST_PLAYERS):
            return False
        if not is_between(pair[1], 0, GREATEST_KEYS):
            return False
        last = pair[0]
    return True


def row_of(inputs):
    """Return the row of keys that inputs tell."""
    known = {player: keys for player, keys in inputs}
    return tuple([known.get(player, 0) for player in range(1, MOST_PLAYERS + 1)])


def is_state_of(game, value):
    """Tell whether the value is a state of the game."""
    if not is_tuple(value, 6):
        return False
    ticks, dice, row, coming, score, things = value
    if not is_between(ticks, 0, MOST_TICKS) or not is_dice(dice) or not is_row(row):
        return False
    if not is_whole(coming) or coming < 1 or not is_value(score):
        return False
    if not isinstance(things, tuple) or len(things) > MOST_THINGS:
        return False
    if not all(is_thing_of(game, thing) for thing in things):
        return False
    numbers = [thing[0] for thing in things] + [coming]
    return all(number < other for number, other in zip(numbers, numbers[1:]))


def is_thing_of(game, value):
    """Tell whether the value is a thing as in a state of the game."""
    if not is_tuple(value, 8):
        return False
    number, kind, x, y, vx, vy, hits, machine = value
    if not is_whole(number) or number < 1 or not is_between(kind, 0, len(game.kinds) - 1):
        return False
    if not is_allowed(game.grid, game.kinds[kind], x, y):
        return False
    if not is_between(vx, -FASTEST, FASTEST) or not is_between(vy, -FASTEST, FASTEST):
        return False
    if not is_tuple(hits, 2) or not all(is_between(hit, -1, 1) for hit in hits):
        return False
    check = game.machine_checks[kind]
    return machine is None or check is not None and check.is_machine(machine)
