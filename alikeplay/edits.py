"""Edits of levels, each of which can be taken back."""

from alikeplay.celledits import cell_outcome
from alikeplay.checks import is_tuple, require
from alikeplay.floods import flood
from alikeplay.grids import is_grid, require_cell
from alikeplay.levels import is_level
from alikeplay.thingedits import thing_outcome

MOST_EDITS = 60
DEEPEST_GROUP = 3


def made(level, edit):
    """Return a pair of the level that comes of the edit, and its inverse."""
    require(is_level(level), "level")
    pair = _outcome(level, edit, 0)
    require(pair is not None and edits_in(edit) <= MOST_EDITS, "edit")
    return pair


def flooded(grid, column, row):
    """Return the list of the cells of the flood from this cell, row by row."""
    require(is_grid(grid), "grid")
    require_cell(grid, column, row)
    return flood(grid, column, row)


def edits_in(edit):
    """Return how many edits there are in an edit: itself, and those in it."""
    return 1 + sum([edits_in(part) for part in edit[1]]) if edit[0] == "group" else 1


def groups_in(edit):
    """Return how deep groups stand in an edit, itself included."""
    return 1 + max([0] + [groups_in(part) for part in edit[1]]) if edit[0] == "group" else 0


def _outcome(level, value, depth):
    """Return the pair of an edit that stands in so many groups, or None if it cannot be made."""
    if not isinstance(value, tuple) or value == () or not isinstance(value[0], str):
        return None
    if value[0] == "group":
        return _group_outcome(level, value, depth + 1)
    pair = cell_outcome(level, value)
    if pair is None:
        pair = thing_outcome(level, value)
    return pair if pair is not None and is_level(pair[0]) else None


def _group_outcome(level, value, depth):
    if depth > DEEPEST_GROUP or not is_tuple(value, 2) or not isinstance(value[1], tuple):
        return None
    inverses = []
    for part in value[1]:
        pair = _outcome(level, part, depth)
        if pair is None:
            return None
        level, inverse = pair
        inverses.append(inverse)
    return level, ("group", tuple(inverses[::-1]))
