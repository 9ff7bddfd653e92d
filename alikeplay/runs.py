"""Runs: values that come several times in succession, each told once with its count."""

from alikeplay.checks import is_tuple
from alikeplay.whole import is_whole


def are_runs(value, is_one):
    """Tell whether the value is a tuple of runs of a kind of values, with different neighbours."""
    if not isinstance(value, tuple) or not all(_is_run(run) and is_one(run[1]) for run in value):
        return False
    return all(run[1] != other[1] for run, other in zip(value, value[1:]))


def _is_run(value):
    return is_tuple(value, 2) and is_whole(value[0]) and value[0] >= 1


def length_of(runs):
    """Return the number of the values of runs."""
    return sum([count for count, _ in runs])


def runs_of(values):
    """Return the tuple of the runs of some values."""
    runs = []
    for value in values:
        if runs and runs[-1][1] == value:
            runs[-1] = runs[-1][0] + 1, value
        else:
            runs.append((1, value))
    return tuple(runs)


def values_of(runs):
    """Return the tuple of the values of runs."""
    found = []
    for count, value in runs:
        found.extend([value] * count)
    return tuple(found)
