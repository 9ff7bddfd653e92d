"""Places of things in the world of a game."""

from alikeplay.grids import is_free
from alikeplay.whole import is_whole

FARTHEST = 4000


def box_at(kind, x, y):
    """Return the box of a thing of the kind that has these coordinates."""
    return x, y, x + kind[1], y + kind[2]


def is_mover(kind):
    """Tell whether things of the kind are stopped by walls and pulled down."""
    return kind[3] is not None


def is_in_world(box):
    """Tell whether the box lies within the world."""
    x0, y0, x1, y1 = box
    return -FARTHEST <= x0 and -FARTHEST <= y0 and x1 <= FARTHEST and y1 <= FARTHEST


def is_allowed(grid, kind, x, y):
    """Tell whether a thing of the kind can have these coordinates, which may be any values."""
    if not is_whole(x) or not is_whole(y):
        return False
    box = box_at(kind, x, y)
    return is_in_world(box) and (not is_mover(kind) or is_free(grid, box))
