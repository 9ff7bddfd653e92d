"""Games: their first states, their states and their steps."""

from alikeplay.checks import require
from alikeplay.dice import dice_of
from alikeplay.errors import TooLarge
from alikeplay.gameforms import check_game
from alikeplay.machineforms import MachineCheck
from alikeplay.places import box_at
from alikeplay.states import MOST_TICKS, is_inputs, is_seed, is_state_of, is_thing_of, row_of
from alikeplay.worlds import first_thing, stepped


class Game:
    """A game: a grid, kinds of things, and the first things."""

    def __init__(self, *, grid, kinds, things):
        check_game(grid, kinds, things)
        self.grid = grid
        self.kinds = kinds
        self.things = things
        # Codes never change, so their heights are found once, and not for each state that is checked.
        self.machine_checks = [None if kind[4] is None else MachineCheck(kind[4]) for kind in kinds]


def first_state(game, seed):
    """Return the first state of the game with the dice of a seed."""
    require(isinstance(game, Game), "game")
    require(is_seed(seed), "seed")
    return state_of(game, seed)


def state_of(game, seed):
    """Return the same for a game and a seed that are known to be such."""
    things = [first_thing(index + 1, game.kinds, kind, x, y) for index, (kind, x, y) in enumerate(game.things)]
    return 0, dice_of(seed), (0, 0, 0, 0), len(things) + 1, 0, tuple(things)


def is_state(game, value):
    """Tell whether the value is a state of the game."""
    require(isinstance(game, Game), "game")
    return is_state_of(game, value)


def box_of(game, thing):
    """Return the box of a thing of a state of the game."""
    require(isinstance(game, Game), "game")
    require(is_thing_of(game, thing), "thing")
    _, kind, x, y, _, _, _, _ = thing
    return box_at(game.kinds[kind], x, y)


def step(game, state, inputs):
    """Return the state behind a step, and the report of the step."""
    require(isinstance(game, Game), "game")
    require(is_state_of(game, state), "state")
    require(is_inputs(inputs), "inputs")
    if state[0] == MOST_TICKS:
        raise TooLarge("ticks")
    return stepped(game, state, row_of(inputs))
