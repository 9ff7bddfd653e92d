"""Spaces: bodies that move, meet and pass momentum on."""

from alikeplay.bodies import body_box, is_body
from alikeplay.boxes import boxes_overlap
from alikeplay.checks import require
from alikeplay.courses import Course
from alikeplay.impacts import EDGE, Impacts
from alikeplay.whole import fraction_sum, fraction, is_fraction, is_whole

MOST_BODIES = 12
FINEST_BOUNCE = 1000


def is_space(value):
    """Tell whether the value is a space."""
    if not isinstance(value, tuple) or len(value) > MOST_BODIES:
        return False
    if not all(is_body(body) for body in value):
        return False
    return _names_ascend(value) and _boxes_are_apart(value)


def _names_ascend(bodies):
    return all(bodies[index][0] < bodies[index + 1][0] for index in range(len(bodies) - 1))


def _boxes_are_apart(bodies):
    boxes = [body_box(body) for body in bodies]
    for index, box in enumerate(boxes):
        for other in range(index):
            if boxes_overlap(box, boxes[other]):
                return False
    return True


def _is_bounce(value):
    return is_fraction(value) and 0 <= value[0] <= value[1] <= FINEST_BOUNCE


def tick(space, bounce):
    """Return the space after the tick, and the list of its contacts."""
    require(is_space(space), "space")
    require(_is_bounce(bounce), "bounce")
    # The second move sees the momenta and carries down of the space before the tick: the first one leaves them.
    across = Course(space, bounce, "x")
    across.run()
    down = Course(across.space_behind(), bounce, "y")
    down.run()
    return down.space_behind(), across.contacts + down.contacts


def momenta_behind(space, bounce, contacts):
    """Return the pairs of momenta after the contacts, or None if one of them tells a wrong j."""
    require(is_space(space), "space")
    require(_is_bounce(bounce), "bounce")
    require(_are_contacts(space, contacts), "contacts")
    impacts = {"x": Impacts(space, bounce, "x"), "y": Impacts(space, bounce, "y")}
    for axis, sign, name, other, j in contacts:
        if impacts[axis].contact(sign, name, other) != j:
            return None
    return [(impacts["x"].momentum(body[0]), impacts["y"].momentum(body[0])) for body in space]


def _are_contacts(space, value):
    if not isinstance(value, list):
        return False
    names = [body[0] for body in space]
    free = _free_names(space)
    return all(_is_contact(names, free, contact) for contact in value)


def _is_contact(names, free, value):
    if not isinstance(value, tuple) or len(value) != 5:
        return False
    axis, sign, name, other, j = value
    return (
        _is_one_of(axis, ["x", "y"])
        and is_whole(sign) and abs(sign) == 1
        and _is_one_of(name, free)
        and _is_one_of(other, [EDGE, *names]) and other != name
        and is_whole(j) and j >= 0
    )


def _is_one_of(value, words):
    return isinstance(value, str) and value in words


def _free_names(space):
    return [body[0] for body in space if body[5] > 0]


def momentum(space):
    """Return the sums of the momenta across and of the momenta down."""
    require(is_space(space), "space")
    return sum([body[6] for body in space]), sum([body[7] for body in space])


def energy(space):
    """Return the energy of the space, a fraction."""
    require(is_space(space), "space")
    total = (0, 1)
    for body in space:
        mass, px, py = body[5:8]
        if mass > 0:
            total = fraction_sum(total, fraction(px * px + py * py, mass))
    return total


def pushed(space, name, jx, jy):
    """Return the space in which the body has jx more momentum across and jy more down."""
    require(is_space(space), "space")
    require(_is_one_of(name, _free_names(space)), "name")
    require(is_whole(jx), "jx")
    require(is_whole(jy), "jy")
    return tuple([_push(body, jx, jy) if body[0] == name else body for body in space])


def _push(body, jx, jy):
    return (*body[:6], body[6] + jx, body[7] + jy, *body[8:])
