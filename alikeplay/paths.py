"""Paths over a grid: the least ones, regions, and fields of distances."""

from heapq import heappop, heappush

from alikeplay.checks import is_tuple, require
from alikeplay.floods import cells_beside, flood
from alikeplay.grids import OPEN, WALL, has_cell, is_grid
from alikeplay.whole import is_between, is_whole

COSTS = {".": 1, "^": 1, "~": 3}
GREATEST_BUDGET = 10000
MOST_GOALS = 16


def cost_of(grid, cells):
    """Return the cost of the path, or None if the cells are none."""
    require(is_grid(grid), "grid")
    if not isinstance(cells, tuple) or cells == () or not all(_is_open(grid, cell) for cell in cells):
        return None
    for cell, other in zip(cells, cells[1:]):
        if other not in cells_beside(grid, cell[0], cell[1]):
            return None
    return sum([_cost(grid, cell) for cell in cells[1:]])


def _is_cell(grid, value):
    return is_tuple(value, 2) and has_cell(grid, value[0], value[1])


def _is_open(grid, value):
    return _is_cell(grid, value) and _cost(grid, value) is not None


def _cost(grid, cell):
    """Return the cost of a cell, or None if it is closed."""
    return COSTS.get(grid[2][_index(grid, cell)], None)


def _index(grid, cell):
    return cell[1] * grid[0] + cell[0]


def _cells_of(grid):
    """Return the list of all cells, row by row."""
    return [(column, row) for row in range(grid[1]) for column in range(grid[0])]


def path_of(grid, start, goal):
    """Return the least cost of a path between the two cells and the first path of this cost, or None."""
    require(is_grid(grid), "grid")
    require(_is_cell(grid, start), "start")
    require(_is_cell(grid, goal), "goal")
    field = _distances(grid, (goal,))
    path = _descent(grid, field, start)
    return None if path is None else (field[_index(grid, start)], path)


def reached(grid, start, budget):
    """Return the list of the cells with their least costs to which a path of at most this cost leads, row by row."""
    require(is_grid(grid), "grid")
    require(_is_cell(grid, start), "start")
    require(is_between(budget, 0, GREATEST_BUDGET), "budget")
    found = []
    for cell, distance in zip(_cells_of(grid), _distances(grid, (start,))):
        if distance is not None:
            # A path that is turned round costs what its ends cost less or more.
            cost = distance + _cost(grid, cell) - _cost(grid, start)
            if cost <= budget:
                found.append((cell, cost))
    return found


def regions(grid):
    """Return the list of the regions, each a tuple of its cells, row by row."""
    require(is_grid(grid), "grid")
    columns, rows, cells = grid
    alike = columns, rows, "".join([sign if sign == WALL else OPEN for sign in cells])
    found = []
    known = {}
    for cell in _cells_of(grid):
        if _is_open(grid, cell) and cell not in known:
            region = flood(alike, cell[0], cell[1])
            found.append(tuple(region))
            for other in region:
                known[other] = True
    return found


def field_of(grid, goals):
    """Return the field for the goals."""
    _check_goals(grid, goals)
    return _distances(grid, goals)


def _check_goals(grid, goals):
    require(is_grid(grid), "grid")
    are_some = isinstance(goals, tuple) and 1 <= len(goals) <= MOST_GOALS
    require(are_some and all(_is_cell(grid, goal) for goal in goals), "goals")


def _distances(grid, goals):
    """Return the tuple of the distances of all cells to the goals, None where there is none."""
    found = [None] * len(grid[2])
    ahead = []
    for goal in goals:
        if _is_open(grid, goal):
            heappush(ahead, (0, goal))
    while ahead:
        distance, cell = heappop(ahead)
        if found[_index(grid, cell)] is None:
            found[_index(grid, cell)] = distance
            for other in cells_beside(grid, cell[0], cell[1]):
                if _is_open(grid, other):
                    heappush(ahead, (distance + _cost(grid, cell), other))
    return tuple(found)


def is_field(grid, goals, field):
    """Tell whether the tuple is the field for the goals."""
    _check_goals(grid, goals)
    return _has_items(grid, field) and _is_right(grid, goals, field)


def _has_items(grid, field):
    return is_tuple(field, len(grid[2])) and all(item is None or is_whole(item) for item in field)


def _is_right(grid, goals, field):
    """Tell, cell by cell, whether items are those of the field for the goals.

    That no item but those of goals is 0 need not be asked: each such item is greater than another one, so the least
    of all is that of a goal.
    """
    return all(item == _due(grid, goals, field, cell) for cell, item in zip(_cells_of(grid), field))


def _due(grid, goals, field, cell):
    """Return the item that a cell must have beside those of the other cells."""
    if not _is_open(grid, cell):
        return None
    if cell in goals:
        return 0
    return min([item for _, item in _behind(grid, field, cell)], default=None)


def _behind(grid, field, cell):
    """Return, for each way from the cell to one with an item, this cell and the distance that goes over it."""
    beside = [other for other in cells_beside(grid, cell[0], cell[1]) if _is_open(grid, other)]
    items = [(other, field[_index(grid, other)]) for other in beside]
    return [(other, item + _cost(grid, other)) for other, item in items if item is not None]


def steepest(grid, field, start):
    """Return the steepest path from the cell to the goals of the field, or None if the cell has no distance."""
    require(is_grid(grid), "grid")
    require(_has_items(grid, field), "field")
    goals = tuple([cell for cell, item in zip(_cells_of(grid), field) if item == 0])
    require(1 <= len(goals) <= MOST_GOALS and _is_right(grid, goals, field), "field")
    require(_is_cell(grid, start), "start")
    return _descent(grid, field, start)


def _descent(grid, field, start):
    """Return the same for a field and a cell that are known to be right."""
    if field[_index(grid, start)] is None:
        return None
    path = [start]
    while field[_index(grid, path[-1])] != 0:
        distance = field[_index(grid, path[-1])]
        ways = [cell for cell, item in _behind(grid, field, path[-1]) if item == distance]
        path.append(ways[0])
    return tuple(path)
