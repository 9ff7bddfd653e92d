"""Pictures and scenes for the tests, and what they look like, pixel by pixel."""

from helpers import NO_INTEGERS, NO_TUPLES
from levels import NO_NAMES
from scripts import replaced
from test_boxes import NO_COORDINATES

PICTURE = ((1, 0, 3), (0, 63, 2))
LARGEST = tuple(tuple((x + y) % 64 for x in range(64)) for y in range(64))
NO_COLOURS = (-1, 64, *NO_INTEGERS)
NO_SIDES = (0, 65, -1, *NO_INTEGERS)
NO_PICTURES = (
    *NO_TUPLES, (), ((),), ((), ()), (1, 2), ([1, 2],), [(1, 2)], ((1, 2), [1, 2]), ((1, 2), (1,)), ((1,), (1, 2)), ((1, 2), ()), ((1, 2), None),
    ((1,) * 65,), ((1,),) * 65, ("ab",), ((1, 2), (3, 4), (5, 6, 7)), *[replaced(PICTURE, (1, 2), colour) for colour in NO_COLOURS],
    *[((colour,),) for colour in NO_COLOURS],
)
ITEM = ("dot", 0, 3, 0, ((0, 5),), False)
FAR = 20000


def wrong_items():
    """Return values that are no items of a scene."""
    found = [*NO_TUPLES, (), ITEM[:5], (*ITEM, 1), list(ITEM)]
    found += [replaced(ITEM, (0,), name) for name in NO_NAMES]
    found += [replaced(ITEM, (1,), layer) for layer in (-9, 9, *NO_INTEGERS)]
    found += [replaced(ITEM, (place,), number) for place in (2, 3) for number in NO_COORDINATES]
    found += [replaced(ITEM, (4,), picture) for picture in NO_PICTURES]
    found += [replaced(ITEM, (5,), value) for value in (None, 0, 1, "", "True", (), (True,), [False])]
    # Items whose boxes go beyond the coordinates.
    found += [("dot", 0, FAR - 1, 0, ((0, 5),), False), ("dot", 0, 0, FAR, ((0, 5),), False), ("dot", 0, FAR, 0, ((5,),), True),
              ("dot", 0, 0, FAR - 1, ((5,), (5,)), False)]
    return found


NO_ITEMS = tuple(wrong_items())
FORTY = tuple((f"i{index:02}", index % 17 - 8, index, -index, ((index + 1,),), index % 2 == 0) for index in range(40))
NO_SCENES = (
    *NO_TUPLES, [ITEM], ITEM, (ITEM, ITEM), (ITEM, ("a", *ITEM[1:]), ("dot", 1, 0, 0, ((1,),), True)), FORTY + (ITEM,),
    *[(item,) for item in NO_ITEMS], *[(("a", *ITEM[1:]), item) for item in NO_ITEMS],
)
NO_WINDOWS = ((0, 0, 65, 1), (0, 0, 1, 65), (0, 0, 0, 1), (0, 0, 1, 0), (1, 0, 0, 1), (0, 1, 1, 0), (FAR - 1, 0, FAR + 1, 1), (0, -FAR - 1, 1, 0 - FAR),
              (-FAR, -FAR, FAR, FAR), (0, 0, 1), (0, 0, 1, 1, 1), [0, 0, 1, 1], (0, 0, 1, True), (False, 0, 1, 1), (0, 0, 1.0, 1), (0, 0, None, 1),
              ("0", 0, 1, 1), *NO_TUPLES, ())


def some_picture(cases, longest=5, colours=(0, 0, 1, 2, 63), size=None):
    width, height = size or (cases.whole(1, longest), cases.whole(1, longest))
    return tuple(tuple(cases.one(colours) for _ in range(width)) for _ in range(height))


def size(picture):
    return len(picture[0]), len(picture)


def pixels(picture):
    return {(x, y): colour for y, row in enumerate(picture) for x, colour in enumerate(row)}


def picture_of(width, height, colour):
    """Make a picture by a function from the places of its pixels to their colours."""
    return tuple(tuple(colour(x, y) for x in range(width)) for y in range(height))


def some_scene(cases, most=8, spread=6, colours=(0, 0, 0, 1, 2, 63)):
    names = sorted({cases.one(("a", "b", "c", "a1", "d", "e", "f", "zz")) for _ in range(cases.whole(0, most))})
    items = [(name, cases.whole(-1, 1), cases.whole(-spread, spread), cases.whole(-spread, spread), some_picture(cases, 5, colours),
              cases.whole(0, 1) == 1) for name in names]
    return tuple(sorted(items, key=lambda item: cases.whole(0, 99)))


def box_of(item):
    width, height = size(item[4])
    return item[2], item[3], item[2] + width, item[3] + height


def colour_at(item, x, y):
    """Return the colour of an item at a point, 0 if it is clear there."""
    x0, y0, x1, y1 = box_of(item)
    if not x0 <= x < x1 or not y0 <= y < y1:
        return 0
    return item[4][y - y0][x1 - 1 - x if item[5] else x - x0]


def drawn_before(item, other):
    """Tell whether an item is drawn before another one, as point 125 tells it."""
    if item[1] != other[1]:
        return item[1] < other[1]
    if box_of(item)[3] != box_of(other)[3]:
        return box_of(item)[3] < box_of(other)[3]
    return item[0] < other[0]


def top_at(scene, x, y):
    """Return the item that is not clear at the point and before no other such one, or None."""
    found = [item for item in scene if colour_at(item, x, y)]
    tops = [item for item in found if not any(drawn_before(item, other) for other in found)]
    return tops[0] if tops else None


def slow_view(scene, window, ground):
    x0, y0, x1, y1 = window

    def colour(i, j):
        top = top_at(scene, x0 + i, y0 + j)
        return ground if top is None else colour_at(top, x0 + i, y0 + j)
    return picture_of(x1 - x0, y1 - y0, colour)


def some_window(cases, spread=6, longest=8):
    x, y = cases.whole(-spread, spread), cases.whole(-spread, spread)
    return x, y, x + cases.whole(1, longest), y + cases.whole(1, longest)
