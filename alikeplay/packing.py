"""Packed pictures, and differences between pictures."""

from alikeplay.checks import is_tuple, require
from alikeplay.pictures import is_colour, is_picture, is_side, picture_of, size_of
from alikeplay.runs import are_runs, length_of, runs_of, values_of
from alikeplay.whole import is_between


def packed(picture):
    """Return the packed picture."""
    require(is_picture(picture), "picture")
    width, height = size_of(picture)
    return width, height, runs_of([colour for row in picture for colour in row])


def unpacked(packed):
    """Return the picture of a packed one."""
    require(_is_packed(packed), "packed")
    width, height, runs = packed
    colours = values_of(runs)
    return tuple([colours[y * width:(y + 1) * width] for y in range(height)])


def _is_packed(value):
    if not is_tuple(value, 3) or not is_side(value[0]) or not is_side(value[1]):
        return False
    width, height, runs = value
    return are_runs(runs, is_colour) and length_of(runs) == width * height


def difference(first, second):
    """Return the difference from the first picture to the second one."""
    require(is_picture(first), "first")
    require(is_picture(second) and size_of(second) == size_of(first), "second")
    patch = []
    for y, row in enumerate(first):
        for x, end in _changed_parts(row, second[y]):
            patch.append((x, y, second[y][x:end]))
    return tuple(patch)


def _changed_parts(row, other):
    """Return the list of the beginnings and ends of the longest parts in which two rows have no pixel in common."""
    parts = []
    for x, colour in enumerate(row):
        if colour != other[x]:
            if parts and parts[-1][1] == x:
                parts[-1] = parts[-1][0], x + 1
            else:
                parts.append((x, x + 1))
    return parts


def patched(picture, patch):
    """Return the patched picture."""
    require(is_picture(picture), "picture")
    require(_is_patch(patch, picture), "patch")
    rows = [list(row) for row in picture]
    for x, y, colours in patch:
        rows[y][x:x + len(colours)] = list(colours)
    return picture_of(rows)


def _is_patch(value, picture):
    """Tell whether the value is a difference within the picture."""
    if not isinstance(value, tuple) or not all(_is_part(part, picture) for part in value):
        return False
    return all(_is_ahead(part, other) for part, other in zip(value, value[1:]))


def _is_part(value, picture):
    if not is_tuple(value, 3) or not isinstance(value[2], tuple) or not all(is_colour(colour) for colour in value[2]):
        return False
    x, y, colours = value
    width, height = size_of(picture)
    return is_between(x, 0, width - 1) and is_between(y, 0, height - 1) and 1 <= len(colours) <= width - x


def _is_ahead(part, other):
    """Tell whether the second part comes behind the first one, and does not touch it."""
    x, y, colours = part
    return y < other[1] or y == other[1] and x + len(colours) < other[0]
