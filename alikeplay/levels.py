"""Levels: their entries, the changes between them, and merged ones."""

from alikeplay.checks import is_tuple, require
from alikeplay.entries import SIZE, can_have, is_key, keys_of, level_of, mended, merged_entries
from alikeplay.errors import TooLarge
from alikeplay.grids import is_grid
from alikeplay.levelforms import MOST_NOTES, MOST_THINGS, are_rows, is_note, is_thing


def is_level(value):
    """Tell whether the value is a level."""
    if not is_tuple(value, 3) or not is_grid(value[0]):
        return False
    return are_rows(value[1], MOST_THINGS, is_thing) and are_rows(value[2], MOST_NOTES, is_note)


def entries_of(level):
    """Return the list of the entries of the level."""
    require(is_level(level), "level")
    (columns, rows, cells), things, notes = level
    entries = [(SIZE, (columns, rows))]
    for index, sign in enumerate(cells):
        entries.append((("cell", index % columns, index // columns), sign))
    for name, kind, x, y, numbers in things:
        entries.append((("thing", name), (kind, x, y)))
        entries.extend([(("value", name, key), number) for key, number in numbers])
    return entries + [(("note", key), text) for key, text in notes]


def _table(level):
    """Return the entries of the level as a dict."""
    return {key: value for key, value in entries_of(level)}


def changes_between(first, second):
    """Return the list of the changes from the first level to the second one."""
    require(is_level(first), "first")
    require(is_level(second), "second")
    old, new = _table(first), _table(second)
    return [(key, old.get(key), new.get(key)) for key in keys_of((old, new)) if old.get(key) != new.get(key)]


def with_changes(level, changes):
    """Return the level with the changes put upon it."""
    require(is_level(level), "level")
    require(_are_changes(changes), "changes")
    entries = _table(level)
    for key, old, new in changes:
        require(can_have(key, old) and can_have(key, new) and entries.get(key) == old, "changes")
    for key, _, new in changes:
        entries[key] = new
    entries = {key: entries[key] for key in entries if entries[key] is not None}
    require(SIZE in entries and mended(entries, {}) == entries, "changes")
    found = level_of(entries)
    require(is_level(found), "changes")
    return found


def reversed_changes(changes):
    """Return the list of the changes with old and new exchanged."""
    require(_are_changes(changes), "changes")
    return [(key, new, old) for key, old, new in changes]


def _are_changes(value):
    """Tell whether the value is a list of changes of different keys, whatever their values are."""
    if not isinstance(value, list) or not all(is_tuple(change, 3) and is_key(change[0]) for change in value):
        return False
    return len({key: True for key, _, _ in value}) == len(value)


def merged(base, mine, theirs):
    """Return the level that is merged of two that were made from the base, and the list of the conflicts."""
    require(is_level(base), "base")
    require(is_level(mine), "mine")
    require(is_level(theirs), "theirs")
    old, one, other = _table(base), _table(mine), _table(theirs)
    entries, split = merged_entries(old, one, other)
    level = level_of(entries)
    # Each value is one of a level, and all of them hang together, so only their number can be wrong.
    if not is_level(level):
        raise TooLarge("level")
    return level, [(key, old.get(key), one.get(key), other.get(key)) for key in split]
