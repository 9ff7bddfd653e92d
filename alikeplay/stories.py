"""Stories of keys, packed ones, and the form of records."""

from alikeplay.checks import is_tuple
from alikeplay.states import is_row, is_seed
from alikeplay.whole import is_whole

MOST_STEPS = 600
MARK_EVERY = 16


def is_story(value):
    """Tell whether the value is a story."""
    return isinstance(value, tuple) and len(value) <= MOST_STEPS and all(is_row(row) for row in value)


def is_packed(value):
    """Tell whether the value is a packed story."""
    if not isinstance(value, tuple) or not all(_is_part(part) for part in value):
        return False
    if any(part[1] == other[1] for part, other in zip(value, value[1:])):
        return False
    return sum([part[0] for part in value]) <= MOST_STEPS


def _is_part(value):
    return is_tuple(value, 2) and is_whole(value[0]) and value[0] >= 1 and is_row(value[1])


def pack(story):
    """Return the packed story."""
    parts = []
    for row in story:
        if parts and parts[-1][1] == row:
            parts[-1] = parts[-1][0] + 1, row
        else:
            parts.append((1, row))
    return tuple(parts)


def unpack(parts):
    """Return the story of a packed one."""
    story = []
    for count, row in parts:
        story.extend([row] * count)
    return tuple(story)


def mark_ticks(steps):
    """Return the list of the ticks at which a record of so many steps has marks."""
    ticks = list(range(0, steps + 1, MARK_EVERY))
    return ticks if ticks[-1] == steps else ticks + [steps]


def is_record(value):
    """Tell whether the value has the form of a record."""
    if not is_tuple(value, 3):
        return False
    seed, parts, marks = value
    if not is_seed(seed) or not is_packed(parts) or not isinstance(marks, tuple):
        return False
    if not all(is_tuple(mark, 2) and is_whole(mark[0]) and is_whole(mark[1]) for mark in marks):
        return False
    return [tick for tick, _ in marks] == mark_ticks(len(unpack(parts)))
