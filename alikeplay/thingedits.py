"""Edits of the things and the notes of a level.

The functions of the table take a level and an edit of one kind, and return a pair of what comes and the inverse, or
None if the edit cannot be made. Whether what comes is a level is not asked here.
"""

from alikeplay.checks import is_tuple
from alikeplay.levelforms import is_note, is_thing, row_named, with_row, without_row
from alikeplay.names import is_name


def _put_thing(level, edit):
    """Put a further thing into the level."""
    if not is_tuple(edit, 2) or not is_thing(edit[1]) or row_named(level[1], edit[1][0]) is not None:
        return None
    return _with_things(level, with_row(level[1], edit[1])), ("drop", edit[1][0])


def _drop_thing(level, edit):
    """Take a thing out of the level."""
    thing = _thing_of(level, edit, 2)
    return None if thing is None else (_with_things(level, without_row(level[1], thing[0])), ("put", thing))


def _place_thing(level, edit):
    """Give a thing other coordinates."""
    thing = _thing_of(level, edit, 4)
    if thing is None:
        return None
    name, kind, x, y, numbers = thing
    return _with_thing(level, (name, kind, edit[2], edit[3], numbers)), ("place", name, x, y)


def _set_value(level, edit):
    """Give a thing a number under a key, or take it away."""
    thing = _thing_of(level, edit, 4)
    if thing is None or not is_name(edit[2]):
        return None
    name, kind, x, y, numbers = thing
    _, _, key, number = edit
    old = row_named(numbers, key)
    if number is None and old is None:
        return None
    numbers = without_row(numbers, key) if number is None else with_row(numbers, (key, number))
    return _with_thing(level, (name, kind, x, y, numbers)), ("value", name, key, None if old is None else old[1])


def _name_thing(level, edit):
    """Give a thing another name."""
    thing = _thing_of(level, edit, 3)
    if thing is None or not is_name(edit[2]) or row_named(level[1], edit[2]) is not None:
        return None
    old, kind, x, y, numbers = thing
    things = with_row(without_row(level[1], old), (edit[2], kind, x, y, numbers))
    return _with_things(level, things), ("name", edit[2], old)


def _set_note(level, edit):
    """Give a note its text, or take it away."""
    if not is_tuple(edit, 3):
        return None
    grid, things, notes = level
    _, key, text = edit
    old = row_named(notes, key)
    if text is None and old is None or text is not None and not is_note((key, text)):
        return None
    notes = without_row(notes, key) if text is None else with_row(notes, (key, text))
    return (grid, things, notes), ("note", key, None if old is None else old[1])


def _thing_of(level, edit, length):
    """Return the thing that an edit of so many items names, or None."""
    return row_named(level[1], edit[1]) if is_tuple(edit, length) else None


def _with_things(level, things):
    return level[0], things, level[2]


def _with_thing(level, thing):
    return _with_things(level, with_row(level[1], thing))


ACTIONS = {
    "put": _put_thing, "drop": _drop_thing, "place": _place_thing, "value": _set_value, "name": _name_thing,
    "note": _set_note,
}


def thing_outcome(level, edit):
    """Return the pair of an edit of things or notes, or None if it is none or cannot be made."""
    if edit[0] not in ACTIONS:
        return None
    action = ACTIONS[edit[0]]
    return action(level, edit)
