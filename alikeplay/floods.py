"""Cells that are reached from a cell."""

from alikeplay.grids import cell_sign, has_cell


def cells_beside(grid, column, row):
    """Return the list of the cells of the grid to the right of the cell, below, to the left and above."""
    beside = [(column + 1, row), (column, row + 1), (column - 1, row), (column, row - 1)]
    return [(at, line) for at, line in beside if has_cell(grid, at, line)]


def flood(grid, column, row):
    """Return the list of the cells that are reached over cells with the sign of this one, row by row."""
    sign = cell_sign(grid, column, row)
    reached = {(column, row): True}
    ahead = [(column, row)]
    while ahead:
        at, line = ahead.pop()
        for cell in cells_beside(grid, at, line):
            if cell not in reached and cell_sign(grid, cell[0], cell[1]) == sign:
                reached[cell] = True
                ahead.append(cell)
    return sorted(reached, key=by_rows)


def by_rows(cell):
    """Return what cells are sorted by, to have them row by row."""
    return cell[1], cell[0]
