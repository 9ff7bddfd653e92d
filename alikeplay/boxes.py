"""Boxes of points with whole coordinates."""

from alikeplay.checks import require
from alikeplay.whole import is_between

LAST_COORDINATE = 20000
LONGEST_SHIFT = 40000


def is_coordinate(value):
    """Tell whether the value is a coordinate."""
    return is_between(value, -LAST_COORDINATE, LAST_COORDINATE)


def is_box(value):
    """Tell whether the value is a box."""
    if not isinstance(value, tuple) or len(value) != 4:
        return False
    if not all(is_coordinate(number) for number in value):
        return False
    x0, y0, x1, y1 = value
    return x0 < x1 and y0 < y1


def overlap(first, second):
    """Tell whether the two boxes contain a common point."""
    _check_boxes(first, second)
    return boxes_overlap(first, second)


def boxes_overlap(first, second):
    """Tell the same of boxes that are known to be boxes, or that lie outside of the limits."""
    x0, y0, x1, y1 = first
    return x0 < second[2] and second[0] < x1 and y0 < second[3] and second[1] < y1


def common(first, second):
    """Return the box of the common points of two boxes, or None."""
    _check_boxes(first, second)
    if not boxes_overlap(first, second):
        return None
    return (
        max(first[0], second[0]), max(first[1], second[1]),
        min(first[2], second[2]), min(first[3], second[3]),
    )


def united(first, second):
    """Return the least box that contains both boxes."""
    _check_boxes(first, second)
    return (
        min(first[0], second[0]), min(first[1], second[1]),
        max(first[2], second[2]), max(first[3], second[3]),
    )


def _check_boxes(first, second):
    require(is_box(first), "first")
    require(is_box(second), "second")


def shifted(box, dx, dy):
    """Return the box moved by dx to the right and dy down."""
    require(is_box(box), "box")
    require(is_between(dx, -LONGEST_SHIFT, LONGEST_SHIFT), "dx")
    require(is_between(dy, -LONGEST_SHIFT, LONGEST_SHIFT), "dy")
    x0, y0, x1, y1 = box
    return x0 + dx, y0 + dy, x1 + dx, y1 + dy


def has_point(box, x, y):
    """Tell whether the box contains the point."""
    require(is_box(box), "box")
    require(is_coordinate(x), "x")
    require(is_coordinate(y), "y")
    x0, y0, x1, y1 = box
    return x0 <= x < x1 and y0 <= y < y1
