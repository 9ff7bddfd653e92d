"""What contacts do to the momenta of bodies."""

# The name of the edge of the world. It takes momentum like a fixed body, so it has the mass 0 here.
EDGE = ""
MOMENTUM_AT = {"x": 6, "y": 7}


class Impacts:
    """The momenta of the bodies of a space along one axis, while contacts pass them on."""

    def __init__(self, space, bounce, axis):
        self.bounce = bounce
        self.masses = {body[0]: body[5] for body in space}
        self.masses[EDGE] = 0
        self.momenta = {body[0]: body[MOMENTUM_AT[axis]] for body in space}

    def momentum(self, name):
        """Return what the body has now."""
        return self.momenta[name]

    def contact(self, sign, name, other):
        """Pass on what a contact passes on when the body tries to move by the sign, and return its j."""
        j = self.strength(sign, name, other)
        self.momenta[name] -= sign * j
        if self.masses[other] > 0:
            self.momenta[other] += sign * j
        return j

    def strength(self, sign, name, other):
        """Return the j of a contact at the momenta of this moment."""
        n, d = self.bounce
        mass = self.masses[name]
        other_mass = self.masses[other]
        push = sign * self.momenta[name]
        if other_mass == 0:
            return (d + n) * max(0, push) // d
        push = push * other_mass - sign * self.momenta[other] * mass
        return (d + n) * max(0, push) // (d * (mass + other_mass))
