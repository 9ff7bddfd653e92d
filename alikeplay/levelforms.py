"""What levels consist of: things with their numbers, and notes."""

from alikeplay.boxes import is_coordinate
from alikeplay.checks import is_tuple
from alikeplay.names import is_name
from alikeplay.whole import is_between

MOST_THINGS = 20
MOST_NUMBERS = 6
MOST_NOTES = 8
GREATEST_NUMBER = 1000
LONGEST_NOTE = 40


def are_rows(value, most, is_one):
    """Tell whether the value is a tuple of at most so many rows of a kind, in ascending order of their first items."""
    if not isinstance(value, tuple) or len(value) > most or not all(is_one(row) for row in value):
        return False
    return all(row[0] < other[0] for row, other in zip(value, value[1:]))


def is_thing(value):
    """Tell whether the value is a thing of a level."""
    if not is_tuple(value, 5) or not is_name(value[0]) or not is_look(value[1:4]):
        return False
    return are_rows(value[4], MOST_NUMBERS, _is_numbered)


def is_look(value):
    """Tell whether the value is the kind and the coordinates of a thing."""
    return is_tuple(value, 3) and is_name(value[0]) and is_coordinate(value[1]) and is_coordinate(value[2])


def _is_numbered(value):
    return is_tuple(value, 2) and is_name(value[0]) and is_number(value[1])


def is_number(value):
    """Tell whether the value is a number that a thing can have under a key."""
    return is_between(value, -GREATEST_NUMBER, GREATEST_NUMBER)


def is_note(value):
    """Tell whether the value is a note of a level."""
    return is_tuple(value, 2) and is_name(value[0]) and is_note_text(value[1])


def is_note_text(value):
    """Tell whether the value is the text of a note."""
    if not isinstance(value, str) or not 1 <= len(value) <= LONGEST_NOTE:
        return False
    return value[0] != " " and value[-1] != " " and all(" " <= sign <= "~" for sign in value)


def row_named(rows, name):
    """Return the row that has the name as its first item, or None."""
    for row in rows:
        if row[0] == name:
            return row
    return None


def without_row(rows, name):
    """Return the rows without the one that has this name."""
    return tuple([row for row in rows if row[0] != name])


def with_row(rows, row):
    """Return the rows with this one, in place of the one that has its name."""
    return tuple(sorted(without_row(rows, row[0]) + (row,), key=_name_of))


def _name_of(row):
    return row[0]
