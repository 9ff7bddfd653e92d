"""The move of the bodies of a space along one axis, which is one half of a tick."""

from alikeplay.boxes import LAST_COORDINATE
from alikeplay.impacts import EDGE, Impacts

MOST_UNITS = 64
# Where a body has its place, its size, its momentum and its carry on each axis.
FIELDS = {"x": (1, 3, 6, 8), "y": (2, 4, 7, 9)}
OTHER_AXIS = {"x": "y", "y": "x"}


class Course:
    """Moves the bodies of a space by single units, round by round, and keeps their contacts."""

    def __init__(self, space, bounce, axis):
        low, size, momentum, carry = FIELDS[axis]
        self.axis = axis
        self.space = space
        self.many = len(space)
        self.lows = [body[low] for body in space]
        self.sizes = [body[size] for body in space]
        self.units = [_wish(body[momentum], body[carry], body[5]) for body in space]
        self.carries = [_carry(body[momentum], body[carry], body[5]) for body in space]
        # Who shares points of the other axis does so until the end, as nothing moves along it meanwhile.
        self.beside = [_beside(space, index, OTHER_AXIS[axis]) for index in range(len(space))]
        self.impacts = Impacts(space, bounce, axis)
        self.contacts = []

    def run(self):
        """Make rounds until no body has units left."""
        while any(self.units):
            for index in range(self.many):
                if self.units[index] != 0:
                    self.try_unit(index)

    def try_unit(self, index):
        """Let a body with units left move by one unit, or have a contact."""
        sign = 1 if self.units[index] > 0 else -1
        low = self.lows[index] + sign
        stopper = self.stopper(index, low)
        if stopper is None:
            self.lows[index] = low
            self.units[index] -= sign
        else:
            name = self.space[index][0]
            j = self.impacts.contact(sign, name, stopper)
            self.contacts.append((self.axis, sign, name, stopper, j))
            self.units[index] = 0

    def stopper(self, index, low):
        """Return the name of what keeps a body from a place, or None if nothing does."""
        high = low + self.sizes[index]
        for other in self.beside[index]:
            if low < self.lows[other] + self.sizes[other] and self.lows[other] < high:
                return self.space[other][0]
        if low < -LAST_COORDINATE or high > LAST_COORDINATE:
            return EDGE
        return None

    def space_behind(self):
        """Return the space with the places, momenta and carries that came of the rounds."""
        low, _, momentum, carry = FIELDS[self.axis]
        bodies = []
        for index, body in enumerate(self.space):
            fields = list(body)
            fields[low] = self.lows[index]
            fields[momentum] = self.impacts.momentum(body[0])
            fields[carry] = self.carries[index]
            bodies.append(tuple(fields))
        return tuple(bodies)


def _wish(momentum, carry, mass):
    """Return by how many units a body wishes to move, negative ones to the left or up."""
    if mass == 0:
        return 0
    return max(-MOST_UNITS, min(MOST_UNITS, (momentum + carry) // mass))


def _carry(momentum, carry, mass):
    if mass == 0:
        return 0
    return (momentum + carry) % mass


def _beside(space, index, axis):
    """Return the indexes of the other bodies that have points in common with the body on an axis."""
    low, size = FIELDS[axis][:2]
    start = space[index][low]
    end = start + space[index][size]
    return [
        other for other, body in enumerate(space)
        if other != index and start < body[low] + body[size] and body[low] < end
    ]
