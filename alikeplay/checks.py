"""Checks of arguments."""

from alikeplay.errors import BadValue


def require(holds, name):
    """Raise BadValue with the name of the argument if what it needs does not hold."""
    if not holds:
        raise BadValue(name)


def is_tuple(value, length):
    """Tell whether the value is a tuple of so many items."""
    return isinstance(value, tuple) and len(value) == length
