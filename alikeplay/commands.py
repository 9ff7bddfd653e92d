"""The commands that a script asks."""

from alikeplay.checks import is_tuple
from alikeplay.names import is_name
from alikeplay.scanning import RESERVED
from alikeplay.whole import is_between

MOST_COMMANDS = 40
MOST_ARGUMENTS = 4


def is_script_name(value):
    """Tell whether the value is a name that a script can use."""
    return is_name(value) and value not in RESERVED


def is_commands(value):
    """Tell whether the value is a list of commands."""
    if not isinstance(value, list) or len(value) > MOST_COMMANDS or not all(_is_command(pair) for pair in value):
        return False
    return len({name: True for name, _ in value}) == len(value)


def _is_command(value):
    return is_tuple(value, 2) and is_script_name(value[0]) and is_between(value[1], 0, MOST_ARGUMENTS)


class Commands:
    """The commands that may be asked: those of a list, or, if it is open, as many more as can stand in one."""

    def __init__(self, pairs, is_open):
        self.counts = {name: count for name, count in pairs}
        self.is_open = is_open

    def allow(self, name, count):
        """Tell whether the name, a string, may be asked with this number of arguments."""
        if self.is_open and name not in self.counts and _is_command((name, count)):
            if len(self.counts) < MOST_COMMANDS:
                self.counts[name] = count
        return name in self.counts and is_between(count, self.counts[name], self.counts[name])

    def pairs(self):
        """Return the list of the commands, in ascending order."""
        return sorted([(name, self.counts[name]) for name in self.counts])
