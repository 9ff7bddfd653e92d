"""Edits of the grid of a level.

The functions of the table take a level and an edit of one kind, and return a pair of what comes and the inverse, or
None if the edit cannot be made. Whether what comes is a level is not asked here.
"""

from alikeplay.checks import is_tuple
from alikeplay.floods import by_rows, flood
from alikeplay.grids import LONGEST_GRID, SIGNS, cell_sign, has_cell
from alikeplay.whole import is_between


def _set_cells(level, edit):
    """Give cells their signs."""
    grid = level[0]
    if not is_tuple(edit, 2) or not isinstance(edit[1], tuple) or edit[1] == ():
        return None
    if not all(_is_signed(grid, cell) for cell in edit[1]):
        return None
    signs = {(column, row): sign for column, row, sign in edit[1]}
    return _painted(level, signs) if len(signs) == len(edit[1]) else None


def _is_signed(grid, value):
    return is_tuple(value, 3) and has_cell(grid, value[0], value[1]) and value[2] in SIGNS


def _set_area(level, edit):
    """Give all cells of an area one sign."""
    if not is_tuple(edit, 6):
        return None
    _, c0, r0, c1, r1, sign = edit
    if not has_cell(level[0], c0, r0) or not has_cell(level[0], c1, r1) or sign not in SIGNS:
        return None
    if c0 > c1 or r0 > r1:
        return None
    return _painted(level, {(column, row): sign for row in range(r0, r1 + 1) for column in range(c0, c1 + 1)})


def _set_flood(level, edit):
    """Give the cells that are flooded from a cell one sign."""
    if not is_tuple(edit, 4):
        return None
    _, column, row, sign = edit
    if not has_cell(level[0], column, row) or sign not in SIGNS:
        return None
    return _painted(level, {cell: sign for cell in flood(level[0], column, row)})


def _painted(level, signs):
    """Give each of some cells, a dict, its sign."""
    (columns, rows, cells), things, notes = level
    painted = list(cells)
    old = []
    for column, row in sorted(signs, key=by_rows):
        painted[row * columns + column] = signs[(column, row)]
        old.append((column, row, cells[row * columns + column]))
    return ((columns, rows, "".join(painted)), things, notes), ("cells", tuple(old))


def _set_size(level, edit):
    """Give the grid a size; cells that are new get a sign."""
    if not is_tuple(edit, 4):
        return None
    _, columns, rows, sign = edit
    if not is_between(columns, 1, LONGEST_GRID) or not is_between(rows, 1, LONGEST_GRID) or sign not in SIGNS:
        return None
    grid = level[0]
    cells = [
        cell_sign(grid, column, row) if has_cell(grid, column, row) else sign
        for row in range(rows)
        for column in range(columns)
    ]
    return _with_grid(level, (columns, rows, "".join(cells)))


def _set_grid(level, edit):
    """Put another grid in place of the grid."""
    return _with_grid(level, edit[1]) if is_tuple(edit, 2) else None


def _with_grid(level, grid):
    return (grid, level[1], level[2]), ("grid", level[0])


ACTIONS = {"cells": _set_cells, "area": _set_area, "flood": _set_flood, "size": _set_size, "grid": _set_grid}


def cell_outcome(level, edit):
    """Return the pair of an edit of the grid, or None if it is none or cannot be made."""
    if edit[0] not in ACTIONS:
        return None
    action = ACTIONS[edit[0]]
    return action(level, edit)
