"""Entries of levels: their keys, their values, and how two tables of entries are merged."""

from alikeplay.checks import is_tuple
from alikeplay.grids import LONGEST_GRID, OPEN, SIGNS
from alikeplay.levelforms import is_look, is_note_text, is_number
from alikeplay.names import is_name
from alikeplay.whole import is_between

SIZE = ("size",)


def is_key(value):
    """Tell whether the value is the key of an entry."""
    if not isinstance(value, tuple) or value == ():
        return False
    if value[0] == "size":
        return len(value) == 1
    if value[0] == "cell":
        return len(value) == 3 and all(is_between(at, 0, LONGEST_GRID - 1) for at in value[1:])
    if value[0] == "value":
        return len(value) == 3 and all(is_name(name) for name in value[1:])
    return (value[0] == "thing" or value[0] == "note") and len(value) == 2 and is_name(value[1])


def key_order(key):
    """Return what keys are sorted by."""
    if key[0] == "size":
        return 0, "", ""
    if key[0] == "cell":
        return 1, key[2], key[1]
    if key[0] == "note":
        return 3, key[1], ""
    return 2, key[1], key[2] if key[0] == "value" else ""


def can_have(key, value):
    """Tell whether a level can have the value under the key; None is nothing."""
    if value is None:
        return True
    if key[0] == "size":
        return is_tuple(value, 2) and all(is_between(number, 1, LONGEST_GRID) for number in value)
    if key[0] == "cell":
        return value in SIGNS
    if key[0] == "thing":
        return is_look(value)
    if key[0] == "value":
        return is_number(value)
    return is_note_text(value)


def level_of(entries):
    """Return the level of a table of entries that hang together."""
    columns, rows = entries[SIZE]
    cells, things, notes = [], [], []
    for key in sorted(entries, key=key_order):
        value = entries[key]
        if key[0] == "cell":
            cells.append(value)
        elif key[0] == "thing":
            things.append((key[1], *value, ()))
        elif key[0] == "value":
            name, kind, x, y, numbers = things[-1]
            things[-1] = name, kind, x, y, numbers + ((key[2], value),)
        elif key[0] == "note":
            notes.append((key[1], value))
    return (columns, rows, "".join(cells)), tuple(things), tuple(notes)


def mended(entries, base):
    """Return the entries without those that hang at nothing, and with the cells of the size that have no sign."""
    columns, rows = entries[SIZE]
    found = {key: entries[key] for key in entries if _hangs(entries, key)}
    for row in range(rows):
        for column in range(columns):
            key = ("cell", column, row)
            if key not in found:
                found[key] = base.get(key, OPEN)
    return found


def _hangs(entries, key):
    if key[0] == "cell":
        columns, rows = entries[SIZE]
        return key[1] < columns and key[2] < rows
    return key[0] != "value" or ("thing", key[1]) in entries


def merged_entries(base, mine, theirs):
    """Return the merged table of entries, and the sorted list of the keys in which both disagree."""
    entries = {}
    split = {}
    for key in keys_of((base, mine, theirs)):
        old, one, other = base.get(key), mine.get(key), theirs.get(key)
        new = other if one == old else one
        if one != old and other != old and other != one:
            new = old
            split[key] = True
        if new is not None:
            entries[key] = new
    found = mended(entries, base)
    for key in keys_of((entries, found)):
        old = base.get(key)
        if entries.get(key) != found.get(key) and (mine.get(key) != old or theirs.get(key) != old):
            split[key] = True
    return found, sorted(split, key=key_order)


def keys_of(tables):
    """Return the sorted list of the keys of one of the tables."""
    found = {}
    for entries in tables:
        for key in entries:
            found[key] = True
    return sorted(found, key=key_order)
