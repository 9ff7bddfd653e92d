"""Pictures: rows of colours."""

from alikeplay.boxes import is_box, is_coordinate
from alikeplay.checks import require
from alikeplay.whole import is_between

GREATEST_COLOUR = 63
CLEAR = 0
LONGEST_SIDE = 64


def is_colour(value):
    """Tell whether the value is a colour."""
    return is_between(value, 0, GREATEST_COLOUR)


def is_side(value):
    """Tell whether the value is a width or a height that a picture can have."""
    return is_between(value, 1, LONGEST_SIDE)


def is_picture(value):
    """Tell whether the value is a picture."""
    if not isinstance(value, tuple) or not is_side(len(value)) or not all(isinstance(row, tuple) for row in value):
        return False
    if not is_side(len(value[0])) or not all(len(row) == len(value[0]) for row in value):
        return False
    return all(is_colour(colour) for row in value for colour in row)


def size_of(picture):
    """Return the width and the height of the picture."""
    return len(picture[0]), len(picture)


def filled(width, height, colour):
    """Return the picture of this size with one colour."""
    require(is_side(width), "width")
    require(is_side(height), "height")
    require(is_colour(colour), "colour")
    return ((colour,) * width,) * height


def cropped(picture, box):
    """Return the picture of the pixels that the box contains."""
    require(is_picture(picture), "picture")
    require(is_box(box) and _is_within(box, picture), "box")
    x0, y0, x1, y1 = box
    return tuple([row[x0:x1] for row in picture[y0:y1]])


def _is_within(box, picture):
    x0, y0, x1, y1 = box
    width, height = size_of(picture)
    return 0 <= x0 and x1 <= width and 0 <= y0 and y1 <= height


def mirrored(picture):
    """Return the picture with its rows turned round."""
    require(is_picture(picture), "picture")
    return turned(picture)


def turned(picture):
    """Return the same of a picture that is known to be one."""
    return tuple([row[::-1] for row in picture])


def flipped(picture):
    """Return the picture with its rows in the opposite order."""
    require(is_picture(picture), "picture")
    return picture[::-1]


def pasted(picture, x, y, sprite):
    """Return the picture with the sprite pasted at the point."""
    require(is_picture(picture), "picture")
    require(is_coordinate(x), "x")
    require(is_coordinate(y), "y")
    require(is_picture(sprite), "sprite")
    rows = [list(row) for row in picture]
    stamp(rows, x, y, sprite)
    return picture_of(rows)


def picture_of(rows):
    """Return the picture that has these rows, lists."""
    return tuple([tuple(row) for row in rows])


def stamp(rows, x, y, sprite):
    """Put what is not clear of a sprite into the rows, lists, at a point that may lie beyond them."""
    width, height = size_of(sprite)
    for j in range(max(0, -y), min(height, len(rows) - y)):
        for i in range(max(0, -x), min(width, len(rows[0]) - x)):
            if sprite[j][i] != CLEAR:
                rows[y + j][x + i] = sprite[j][i]
