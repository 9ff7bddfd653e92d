"""Runs that can be taken back."""

from alikeplay.checks import require
from alikeplay.errors import TooLarge
from alikeplay.games import Game, first_state
from alikeplay.states import is_inputs, row_of
from alikeplay.stories import MOST_STEPS
from alikeplay.whole import is_between
from alikeplay.worlds import stepped


class Rewind:
    """A run, with its states at all ticks, so that steps can be taken back."""

    def __init__(self, game, seed):
        self.states = [first_state(game, seed)]
        self.rows = []
        self.game = Game(grid=game.grid, kinds=game.kinds, things=game.things)

    def state(self):
        """Return the state behind the last step."""
        return self.states[-1]

    def story(self):
        """Return the story of the steps that stand."""
        return tuple(self.rows)

    def step(self, inputs):
        """Make a step, and return its report."""
        require(is_inputs(inputs), "inputs")
        if len(self.rows) == MOST_STEPS:
            raise TooLarge("steps")
        row = row_of(inputs)
        state, report = stepped(self.game, self.states[-1], row)
        self.states.append(state)
        self.rows.append(row)
        return report

    def back(self, count):
        """Take back the last steps, and return the number of steps that are left."""
        require(is_between(count, 0, len(self.rows)), "count")
        left = len(self.rows) - count
        self.rows = self.rows[:left]
        self.states = self.states[:left + 1]
        return left

    def state_at(self, tick):
        """Return the state at the tick."""
        require(is_between(tick, 0, len(self.rows)), "tick")
        return self.states[tick]
