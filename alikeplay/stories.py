"""Stories of keys, packed ones, and the form of records."""

from alikeplay.checks import is_tuple
from alikeplay.runs import are_runs, length_of
from alikeplay.states import is_row, is_seed
from alikeplay.whole import is_whole

MOST_STEPS = 600
MARK_EVERY = 16


def is_story(value):
    """Tell whether the value is a story."""
    return isinstance(value, tuple) and len(value) <= MOST_STEPS and all(is_row(row) for row in value)


def is_packed(value):
    """Tell whether the value is a packed story."""
    return are_runs(value, is_row) and length_of(value) <= MOST_STEPS


def mark_ticks(steps):
    """Return the list of the ticks at which a record of so many steps has marks."""
    ticks = list(range(0, steps + 1, MARK_EVERY))
    return ticks if ticks[-1] == steps else ticks + [steps]


def is_record(value):
    """Tell whether the value has the form of a record."""
    if not is_tuple(value, 3):
        return False
    seed, parts, marks = value
    if not is_seed(seed) or not is_packed(parts) or not isinstance(marks, tuple):
        return False
    if not all(is_tuple(mark, 2) and is_whole(mark[0]) and is_whole(mark[1]) for mark in marks):
        return False
    return [tick for tick, _ in marks] == mark_ticks(length_of(parts))
