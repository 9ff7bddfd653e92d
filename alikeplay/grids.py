"""Grids of cells: open ones, walls, shelves and slow ones."""

from alikeplay.boxes import is_box
from alikeplay.checks import require
from alikeplay.whole import is_between

CELL = 16
OPEN = "."
WALL = "#"
SIGNS = (".", "#", "^", "~")
LONGEST_GRID = 40
LONGEST_SIDE = 640
FARTHEST_CELL = 1000


def is_grid(value):
    """Tell whether the value is a grid."""
    if not isinstance(value, tuple) or len(value) != 3:
        return False
    columns, rows, cells = value
    if not is_between(columns, 1, LONGEST_GRID) or not is_between(rows, 1, LONGEST_GRID):
        return False
    if not isinstance(cells, str) or len(cells) != columns * rows:
        return False
    return sum([cells.count(sign) for sign in SIGNS]) == len(cells)


def is_sized_box(value):
    """Tell whether the value is a box that is small enough for the functions of grids and movers."""
    if not is_box(value):
        return False
    x0, y0, x1, y1 = value
    return x1 - x0 <= LONGEST_SIDE and y1 - y0 <= LONGEST_SIDE


def sign_at(grid, column, row):
    """Return the sign of the cell, inside or outside of the grid."""
    require(is_grid(grid), "grid")
    require(is_between(column, -FARTHEST_CELL, FARTHEST_CELL), "column")
    require(is_between(row, -FARTHEST_CELL, FARTHEST_CELL), "row")
    return cell_sign(grid, column, row)


def cell_sign(grid, column, row):
    """Return the same of any cell, however far it is."""
    columns, rows, cells = grid
    if not 0 <= column < columns:
        return WALL
    if not 0 <= row < rows:
        return OPEN
    return cells[row * columns + column]


def cells_between(low, high):
    """Return the list of the columns, or rows, that have points from low to high - 1."""
    return list(range(low // CELL, (high - 1) // CELL + 1))


def cells_met(grid, box):
    """Return the list of the cells of the grid that the box meets, row by row."""
    require(is_grid(grid), "grid")
    require(is_sized_box(box), "box")
    columns, rows, _ = grid
    x0, y0, x1, y1 = box
    return [
        (column, row)
        for row in cells_between(y0, y1) if 0 <= row < rows
        for column in cells_between(x0, x1) if 0 <= column < columns
    ]


def is_free(grid, box):
    """Tell whether the box meets no wall, inside or outside of the grid."""
    require(is_grid(grid), "grid")
    require(is_sized_box(box), "box")
    return not meets_sign(grid, box, (WALL,))


def meets_sign(grid, box, signs):
    """Tell whether a box, which may lie outside of the limits, meets a cell with one of the signs."""
    x0, y0, x1, y1 = box
    columns = cells_between(x0, x1)
    for row in cells_between(y0, y1):
        for column in columns:
            if cell_sign(grid, column, row) in signs:
                return True
    return False


def with_sign(grid, column, row, sign):
    """Return the grid with this sign at the cell."""
    require(is_grid(grid), "grid")
    require_cell(grid, column, row)
    require(sign in SIGNS, "sign")
    columns, rows, cells = grid
    index = row * columns + column
    return columns, rows, cells[:index] + sign + cells[index + 1:]


def require_cell(grid, column, row):
    """Raise BadValue if the column or the row is not that of a cell of the grid."""
    require(is_between(column, 0, grid[0] - 1), "column")
    require(is_between(row, 0, grid[1] - 1), "row")


def has_cell(grid, column, row):
    """Tell whether the grid has the cell."""
    return is_between(column, 0, grid[0] - 1) and is_between(row, 0, grid[1] - 1)


def mirrored_grid(grid):
    """Return the grid with each of its rows reversed."""
    require(is_grid(grid), "grid")
    columns, rows, cells = grid
    lines = [cells[row * columns:(row + 1) * columns] for row in range(rows)]
    return columns, rows, "".join([line[::-1] for line in lines])


def wall_boxes(grid):
    """Return the list of the boxes that cover the walls of the grid, in the order in which they begin."""
    require(is_grid(grid), "grid")
    columns, rows, _ = grid
    cover = Cover(grid)
    boxes = []
    for row in range(rows):
        for column in range(columns):
            if cover.is_bare(column, row):
                boxes.append(cover.box_from(column, row))
    return boxes


class Cover:
    """The walls of a grid, while boxes are laid over them."""

    def __init__(self, grid):
        columns, rows, cells = grid
        self.columns = columns
        self.rows = rows
        self.bare = [sign == WALL for sign in cells]

    def is_bare(self, column, row):
        """Tell whether the cell is a wall of the grid that lies in no box yet."""
        inside = column < self.columns and row < self.rows
        return inside and self.bare[row * self.columns + column]

    def box_from(self, column, row):
        """Lay the box that begins at the cell over its walls, and return it."""
        right = column + 1
        while self.is_bare(right, row):
            right += 1
        below = row + 1
        while all(self.is_bare(at, below) for at in range(column, right)):
            below += 1
        for covered in range(row, below):
            for at in range(column, right):
                self.bare[covered * self.columns + at] = False
        return CELL * column, CELL * row, CELL * right, CELL * below
