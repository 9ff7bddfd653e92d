"""The check of one argument."""

from alikeplay.errors import BadValue


def require(holds, name):
    """Raise BadValue with the name of the argument if what it needs does not hold."""
    if not holds:
        raise BadValue(name)
