"""Bodies: boxes with a mass and momenta."""

from alikeplay.boxes import is_coordinate
from alikeplay.checks import require
from alikeplay.names import is_name
from alikeplay.whole import is_between, is_whole

LONGEST_SIDE = 200
GREATEST_MASS = 100
FASTEST_FLIGHT = 63
MOST_TICKS = 1000000


def is_body(value):
    """Tell whether the value is a body."""
    if not isinstance(value, tuple) or len(value) != 10:
        return False
    name, x, y, width, height, mass, px, py, cx, cy = value
    return (
        is_name(name)
        and _is_range(x, width)
        and _is_range(y, height)
        and is_between(mass, 0, GREATEST_MASS)
        and _is_motion(px, cx, mass)
        and _is_motion(py, cy, mass)
    )


def _is_range(low, size):
    return is_coordinate(low) and is_between(size, 1, LONGEST_SIDE) and is_coordinate(low + size)


def _is_motion(momentum, carry, mass):
    """Tell whether a body of the mass can have the momentum and the carry on one axis."""
    if mass == 0:
        return is_between(momentum, 0, 0) and is_between(carry, 0, 0)
    return is_whole(momentum) and is_between(carry, 0, mass - 1)


def box_of(body):
    """Return the box of the body."""
    require(is_body(body), "body")
    return body_box(body)


def body_box(body):
    """Return the same of what is known to be a body."""
    x, y, width, height = body[1:5]
    return x, y, x + width, y + height


def flown(body, n):
    """Return the body after n ticks of flying, alone in a world without an edge."""
    require(is_body(body) and _can_fly(body), "body")
    require(is_between(n, 0, MOST_TICKS), "n")
    name, x, y, width, height, mass, px, py, cx, cy = body
    across = n * px + cx
    down = n * py + cy
    x += across // mass
    y += down // mass
    return name, x, y, width, height, mass, px, py, across % mass, down % mass


def _can_fly(body):
    mass, px, py = body[5:8]
    return mass > 0 and max(abs(px), abs(py)) <= FASTEST_FLIGHT * mass
