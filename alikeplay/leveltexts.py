"""Texts of levels."""

from alikeplay.checks import require
from alikeplay.errors import BadScript
from alikeplay.grids import LONGEST_GRID, SIGNS
from alikeplay.levelforms import MOST_NOTES, MOST_THINGS, is_note, is_thing
from alikeplay.levels import is_level
from alikeplay.names import DIGITS
from alikeplay.whole import is_between

LONGEST_TEXT = 8000
# No number of a level has more digits; Python refuses to read very long ones.
MOST_DIGITS = 5


def level_text(level):
    """Return the text of the level."""
    require(is_level(level), "level")
    (columns, rows, cells), things, notes = level
    lines = [f"grid {columns} {rows}"]
    lines.extend([cells[row * columns:(row + 1) * columns] for row in range(rows)])
    for name, kind, x, y, numbers in things:
        lines.append(" ".join([f"thing {name} {kind} {x} {y}"] + [f"{key}={number}" for key, number in numbers]))
    lines.extend([f"note {key} {text}" for key, text in notes])
    return "".join([line + "\n" for line in lines])


def read_level(text):
    """Return the level that has this text."""
    require(isinstance(text, str) and len(text) <= LONGEST_TEXT, "text")
    lines = text.split("\n")
    if lines[-1] != "" or len(lines) == 1:
        raise BadScript(len(lines), 1, "end")
    grid = _read_grid(lines[:-1])
    rest = Rest()
    for number in range(grid[1] + 2, len(lines)):
        words = rest.take(lines[number - 1])
        if words is not None:
            raise BadScript(number, 1, words)
    return grid, tuple(rest.things), tuple(rest.notes)


def _read_grid(lines):
    """Return the grid of the first lines."""
    size = _size_in(lines[0].split(" "))
    if size is None:
        raise BadScript(1, 1, "grid")
    columns, rows = size
    for number in range(2, rows + 2):
        if number > len(lines) or not _is_row(lines[number - 1], columns):
            raise BadScript(number, 1, "row")
    return columns, rows, "".join(lines[1:rows + 1])


def _size_in(pieces):
    if len(pieces) != 3 or pieces[0] != "grid":
        return None
    columns, rows = _number_in(pieces[1]), _number_in(pieces[2])
    if not is_between(columns, 1, LONGEST_GRID) or not is_between(rows, 1, LONGEST_GRID):
        return None
    return columns, rows


def _is_row(line, columns):
    return len(line) == columns and all(sign in SIGNS for sign in line)


def _number_in(piece):
    """Return the number that is written as this piece, or None."""
    digits = piece[1:] if piece.startswith("-") else piece
    if not 1 <= len(digits) <= MOST_DIGITS or not all(sign in DIGITS for sign in digits):
        return None
    # A number is written in one way only, without zeros in front, and 0 has no sign.
    return int(piece) if str(int(piece)) == piece else None


class Rest:
    """The things and notes of a text, while its lines are read."""

    def __init__(self):
        self.things = []
        self.notes = []

    def take(self, line):
        """Take a line; return the words of its problem, or None."""
        if line.startswith("thing "):
            thing = _thing_in(line.split(" "))
            if not is_thing(thing):
                return "thing"
            return "line" if self.notes else _put_behind(self.things, thing, MOST_THINGS)
        if line.startswith("note "):
            note = tuple(line.split(" ", 2)[1:])
            return _put_behind(self.notes, note, MOST_NOTES) if is_note(note) else "note"
        return "line"


def _thing_in(pieces):
    """Return what the pieces of a line tell of a thing, with None in place of what is no number."""
    if len(pieces) < 5:
        return None
    name, kind, x, y = pieces[1:5]
    numbers = []
    for piece in pieces[5:]:
        key, _, number = piece.partition("=")
        numbers.append((key, _number_in(number)))
    return name, kind, _number_in(x), _number_in(y), tuple(numbers)


def _put_behind(rows, row, most):
    """Put a row behind the others; return the words of its problem, or None."""
    if rows and row[0] <= rows[-1][0]:
        return "order"
    if len(rows) == most:
        return "many"
    rows.append(row)
    return None
