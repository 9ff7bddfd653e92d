"""Scenes of items, and their views through windows."""

from alikeplay.boxes import has_point, is_box, is_coordinate
from alikeplay.checks import is_tuple, require
from alikeplay.names import is_name
from alikeplay.pictures import CLEAR, LONGEST_SIDE, is_colour, is_picture, picture_of, size_of, stamp, turned
from alikeplay.whole import is_between

MOST_ITEMS = 40
FARTHEST_LAYER = 8
MOST_BOXES = 100


def is_scene(value):
    """Tell whether the value is a scene."""
    if not isinstance(value, tuple) or len(value) > MOST_ITEMS or not all(_is_item(item) for item in value):
        return False
    return len({item[0]: True for item in value}) == len(value)


def _is_item(value):
    if not is_tuple(value, 6):
        return False
    name, layer, x, y, sprite, is_mirrored = value
    if not is_name(name) or not is_between(layer, -FARTHEST_LAYER, FARTHEST_LAYER):
        return False
    if not is_coordinate(x) or not is_coordinate(y) or not is_picture(sprite):
        return False
    return is_box(_box_of(value)) and (is_mirrored is True or is_mirrored is False)


def _box_of(item):
    _, _, x, y, sprite, _ = item
    width, height = size_of(sprite)
    return x, y, x + width, y + height


def _is_window(value):
    if not is_box(value):
        return False
    width, height = _size_of_box(value)
    return width <= LONGEST_SIDE and height <= LONGEST_SIDE


def _size_of_box(box):
    x0, y0, x1, y1 = box
    return x1 - x0, y1 - y0


def in_order(scene):
    """Return the list of the items in the order of drawing."""
    require(is_scene(scene), "scene")
    return _ordered(scene)


def _ordered(scene):
    return sorted(scene, key=_order)


def _order(item):
    return item[1], _box_of(item)[3], item[0]


def view(scene, window, ground):
    """Return the view of the scene through the window over the ground colour."""
    require(is_scene(scene), "scene")
    require(_is_window(window), "window")
    require(is_colour(ground), "ground")
    return _drawn(scene, window, ground)


def _drawn(scene, window, ground):
    items = _ordered(scene)
    return picture_of(_stamped([_sprite_of(item) for item in items], items, window, ground))


def _sprite_of(item):
    """Return the sprite of an item as it is drawn."""
    return turned(item[4]) if item[5] else item[4]


def _stamped(sprites, items, window, ground):
    """Return the rows of what is seen through a window, if the items have these sprites."""
    width, height = _size_of_box(window)
    rows = [[ground] * width for _ in range(height)]
    for sprite, item in zip(sprites, items):
        stamp(rows, item[2] - window[0], item[3] - window[1], sprite)
    return rows


def top_item(scene, x, y):
    """Return the name of the top item at the point, or None."""
    require(is_scene(scene), "scene")
    require(is_coordinate(x), "x")
    require(is_coordinate(y), "y")
    for item in _ordered(scene)[::-1]:
        if has_point(_box_of(item), x, y) and _sprite_of(item)[y - item[3]][x - item[2]] != CLEAR:
            return item[0]
    return None


def seen(scene, window):
    """Return the list of the names of the items that are seen through the window, in the order of drawing."""
    require(is_scene(scene), "scene")
    require(_is_window(window), "window")
    items = _ordered(scene)
    # Each item is drawn with a number of its own in place of its colours.
    sprites = [_numbered(_sprite_of(item), index + 1) for index, item in enumerate(items)]
    tops = {}
    for row in _stamped(sprites, items, window, CLEAR):
        for number in row:
            tops[number] = True
    return [item[0] for index, item in enumerate(items) if index + 1 in tops]


def _numbered(sprite, number):
    return [[CLEAR if colour == CLEAR else number for colour in row] for row in sprite]


def changed_boxes(old, new):
    """Return the list of the changed boxes from the old scene to the new one."""
    require(is_scene(old), "old")
    require(is_scene(new), "new")
    items = [item for item in old if item not in new] + [item for item in new if item not in old]
    return sorted({_box_of(item): True for item in items})


def redrawn(view, window, ground, scene, boxes):
    """Return the old view with the pixels of the new scene in the boxes."""
    require(is_picture(view), "view")
    require(_is_window(window), "window")
    require(is_colour(ground), "ground")
    require(is_scene(scene), "scene")
    require(isinstance(boxes, list) and len(boxes) <= MOST_BOXES and all(is_box(box) for box in boxes), "boxes")
    require(size_of(view) == _size_of_box(window), "view")
    fresh = _drawn(scene, window, ground)
    rows = [list(row) for row in view]
    for x0, y0, x1, y1 in boxes:
        left, right = max(x0, window[0]) - window[0], max(x1, window[0]) - window[0]
        for y in range(max(y0, window[1]), min(y1, window[3])):
            rows[y - window[1]][left:right] = list(fresh[y - window[1]][left:right])
    return picture_of(rows)
