"""Boxes that move among walls and shelves, rest on each other, and rays."""

from alikeplay.boxes import is_coordinate
from alikeplay.checks import require
from alikeplay.grids import CELL, WALL, is_grid, is_sized_box, meets_sign
from alikeplay.rays import face_met, meeting, parts_of, stay
from alikeplay.whole import fraction, is_between

LONGEST_MOVE = 2000
MOST_BOXES = 30
# What stops a box that moves down, and bears it: a wall or a shelf.
BEARERS = ("#", "^")


def moved(grid, box, dx, dy, through):
    """Return the moved box and its hits across and down; it passes shelves if `through` is True."""
    require(is_grid(grid), "grid")
    require(is_sized_box(box), "box")
    require(is_between(dx, -LONGEST_MOVE, LONGEST_MOVE), "dx")
    require(is_between(dy, -LONGEST_MOVE, LONGEST_MOVE), "dy")
    require(through is True or through is False, "through")
    if meets_sign(grid, box, (WALL,)):
        return box, 0, 0
    x0, y0, x1, y1 = box
    across = _units_across(grid, box, dx)
    x0, x1 = x0 + across, x1 + across
    down = _units_down(grid, (x0, y0, x1, y1), dy, through)
    return (x0, y0 + down, x1, y1 + down), _hit(dx, across), _hit(dy, down)


def _units_across(grid, box, dx):
    """Return by how many units a free box goes across, negative ones to the left."""
    x0, y0, x1, y1 = box
    sign, edge = (1, x1) if dx > 0 else (-1, x0 - 1)
    for made in range(abs(dx)):
        x = edge + sign * made
        if _is_new_cell(x, sign) and meets_sign(grid, (x, y0, x + 1, y1), (WALL,)):
            return sign * made
    return dx


def _units_down(grid, box, dy, through):
    """Return by how many units a free box goes down, negative ones up."""
    x0, y0, x1, y1 = box
    sign, edge = (1, y1) if dy > 0 else (-1, y0 - 1)
    stoppers = (WALL,) if through or dy < 0 else BEARERS
    for made in range(abs(dy)):
        y = edge + sign * made
        if _is_new_cell(y, sign) and meets_sign(grid, (x0, y, x1, y + 1), stoppers):
            return sign * made
    return dy


def _is_new_cell(coordinate, sign):
    """Tell whether a box that takes this further coordinate comes to a column, or row, that it did not meet."""
    return coordinate // CELL != (coordinate - sign) // CELL


def _hit(wanted, made):
    if made == wanted:
        return 0
    return 1 if wanted > 0 else -1


def stands(grid, box):
    """Tell whether the box stands on a wall or a shelf."""
    require(is_grid(grid), "grid")
    require(is_sized_box(box), "box")
    return _stands_on_cell(grid, box)


def _stands_on_cell(grid, box):
    x0, _, x1, feet = box
    return feet % CELL == 0 and meets_sign(grid, (x0, feet, x1, feet + 1), BEARERS)


def held(grid, boxes):
    """Return the list that tells of each box whether it is held, by the grid or by a box that is."""
    require(is_grid(grid), "grid")
    require(_are_boxes(boxes), "boxes")
    flags = [_stands_on_cell(grid, box) for box in boxes]
    grown = True
    while grown:
        grown = False
        for index, box in enumerate(boxes):
            if not flags[index] and _rests_on_held(box, boxes, flags):
                flags[index] = True
                grown = True
    return flags


def _are_boxes(value):
    return isinstance(value, list) and len(value) <= MOST_BOXES and all(is_sized_box(box) for box in value)


def _rests_on_held(box, boxes, flags):
    bearers = [other for flag, other in zip(flags, boxes) if flag]
    return any(_rests_on(box, other) for other in bearers)


def _rests_on(box, other):
    return box[3] == other[1] and box[0] < other[2] and other[0] < box[2]


def cast(grid, start, end):
    """Return the wall that a ray hits first, when it does so, and at which face; None if it hits none."""
    require(is_grid(grid), "grid")
    require(_is_point(start), "start")
    require(_is_point(end), "end")
    dx, dy = end[0] - start[0], end[1] - start[1]
    parts = parts_of(dx, dy)
    columns, rows, cells = grid
    across = [stay(start[0], dx, CELL * column, CELL * column + CELL, parts) for column in range(columns)]
    down = [stay(start[1], dy, CELL * row, CELL * row + CELL, parts) for row in range(rows)]
    best = None
    first = parts + 1
    for index, sign in enumerate(cells):
        column, row = index % columns, index // columns
        part = meeting(across[column], down[row])
        if sign == WALL and part is not None and part < first:
            best = column, row
            first = part
    if best is None:
        return None
    column, row = best
    return best, fraction(first, parts), face_met(across[column], down[row], dx, dy)


def _is_point(value):
    return isinstance(value, tuple) and len(value) == 2 and all(is_coordinate(number) for number in value)
