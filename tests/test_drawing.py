"""Points 125 to 128, 131 and 132: scenes and their views."""

import itertools
import unittest

from alikeplay.drawing import changed_boxes, in_order, is_scene, redrawn, seen, top_item, view
from alikeplay.errors import BadValue
from alikeplay.pictures import cropped, filled, mirrored
from helpers import NO_INTEGERS, Cases, check_arguments, check_pure
from pictures import (
    FAR, FORTY, ITEM, LARGEST, NO_COLOURS, NO_PICTURES, NO_SCENES, NO_WINDOWS, box_of, drawn_before, picture_of, slow_view, some_picture,
    some_scene, some_window, top_at,
)
from test_boxes import NO_BOXES, NO_COORDINATES

WINDOW = (2, 0, 6, 1)
LID = ("lid", 1, 4, 0, ((9,),), False)


def item(name, layer=0, x=0, y=0, sprite=((1,),), is_mirrored=False):
    return name, layer, x, y, sprite, is_mirrored


class SceneTests(unittest.TestCase):
    def test_scenes(self):
        for scene in ((), (ITEM,), FORTY, (item("a", 8, FAR - 64, -FAR, LARGEST), item("b", -8, -FAR, FAR - 64, LARGEST, True)),
                      (item("a23456789012"), item("a2345678901"))):
            self.assertIs(is_scene(scene), True)
        for value in NO_SCENES:
            self.assertIs(is_scene(value), False, value)

    def test_order(self):
        self.assertEqual(in_order(()), [])
        items = [item("z", -8, 0, 50), item("y", -1, 0, 9), item("x", 0, 5, -5), item("w", 0, -5, 0), item("a", 0, 0, 0, ((1,), (1,))),
                 item("b", 0, 9, 1), item("c", 0, -9, 0, ((1,), (1,))), item("a0", 1, 0, -9), item("aa", 1, 0, -9), item("b1", 8, 0, -50)]
        for scene in (items, items[::-1], sorted(items)):
            self.assertEqual(check_pure(self, in_order, tuple(scene)), items)

    def test_drawn_scenes_in_order(self):
        cases = Cases(171)
        for _ in range(200):
            scene = some_scene(cases)
            found = check_pure(self, in_order, scene)
            self.assertEqual(sorted(found), sorted(scene))
            self.assertTrue(all(drawn_before(first, second) for first, second in itertools.combinations(found, 2)))


class ViewTests(unittest.TestCase):
    def test_document(self):
        self.assertEqual(view((ITEM,), WINDOW, 7), ((7, 7, 5, 7),))
        self.assertEqual(view((("dot", 0, 3, 0, ((0, 5),), True),), WINDOW, 7), ((7, 5, 7, 7),))
        self.assertEqual((top_item((ITEM,), 4, 0), top_item((ITEM,), 3, 0)), ("dot", None))
        self.assertEqual(seen((ITEM, LID), WINDOW), ["lid"])

    def test_bounds(self):
        self.assertEqual(view((), (0, 0, 1, 1), 0), ((0,),))
        self.assertEqual(view((), (-FAR, -FAR, 64 - FAR, 64 - FAR), 63), filled(64, 64, 63))
        corner = item("a", 0, FAR - 64, FAR - 64, LARGEST)
        expected = picture_of(64, 64, lambda x, y: LARGEST[y][x] or 9)
        self.assertEqual(view((corner,), (FAR - 64, FAR - 64, FAR, FAR), 9), expected)
        self.assertEqual(view((corner,), (FAR - 1, FAR - 1, FAR, FAR), 9), ((LARGEST[63][63],),))
        self.assertEqual(top_item((corner,), FAR - 1, FAR - 1), "a")
        self.assertIsNone(top_item((corner,), FAR, FAR))
        self.assertIsNone(top_item((corner,), -FAR, -FAR))
        row = view(FORTY, (0, -63, 64, 1), 0)
        self.assertEqual([row[63 - k][k] for k in range(40)], [k + 1 for k in range(40)])

    def test_layers(self):
        """Of two items at one place, the one that is drawn last is seen."""
        pairs = [(item("b", 0), item("a", 1)), (item("a", -8), item("b", 8)), (item("a"), item("b")), (item("b", 0, 0, -1, ((1,), (1,))), item("c")),
                 (item("b", 0, 0, 0), item("a", 0, 0, 0, ((1,), (1,)))), (item("b", -1, 0, 0, ((1,), (1,))), item("a", 0))]
        for under, over in pairs:
            under, over = (*under[:4], tuple(tuple(5 for _ in row) for row in under[4]), False), (*over[:4], tuple(tuple(6 for _ in row) for row in over[4]), False)
            for scene in ((under, over), (over, under)):
                self.assertEqual((view(scene, (0, 0, 1, 1), 0), top_item(scene, 0, 0)), (((6,),), over[0]))
                self.assertEqual(seen(scene, (0, 0, 1, 1)), [over[0]])

    def test_drawn_scenes(self):
        cases = Cases(172)
        for _ in range(400):
            scene, window, ground = some_scene(cases), some_window(cases), cases.one((0, 7, 63))
            picture = check_pure(self, view, scene, window, ground)
            self.assertEqual(picture, slow_view(scene, window, ground))
            x0, y0, x1, y1 = window
            tops = [top_at(scene, x, y) for y in range(y0, y1) for x in range(x0, x1)]
            self.assertEqual(check_pure(self, seen, scene, window), [some[0] for some in in_order(scene) if some in tops])
            x, y = cases.whole(x0, x1 - 1), cases.whole(y0, y1 - 1)
            top = top_at(scene, x, y)
            self.assertEqual(check_pure(self, top_item, scene, x, y), None if top is None else top[0])

    def test_without_items_that_are_not_seen(self):
        cases = Cases(173)
        hidden = 0
        for _ in range(150):
            scene, window = some_scene(cases, 12, 2, (0, 1, 2, 3)), some_window(cases, 3, 5)
            names = seen(scene, window)
            hidden += len(scene) - len(names)
            left = tuple(some for some in scene if some[0] in names)
            self.assertEqual(view(left, window, 9), view(scene, window, 9))
            self.assertEqual(seen(left, window), names)
            for name in names:
                # Each of those that are seen has a pixel of its own.
                marked = tuple((*some[:4], tuple(tuple(colour and 60 for colour in row) for row in some[4]), some[5]) if some[0] == name else some
                               for some in scene)
                self.assertTrue(any(60 in row for row in view(marked, window, 9)))
        self.assertGreater(hidden, 100)

    def test_hidden_by_several(self):
        under = item("under", 0, 0, 0, filled(4, 1, 5))
        lids = [item(f"lid{x}", 1, x, 0, ((x + 10,),)) for x in range(4)]
        self.assertEqual(seen((under, *lids), (0, 0, 4, 1)), ["lid0", "lid1", "lid2", "lid3"])
        self.assertEqual(seen((under, *lids[:3]), (0, 0, 4, 1)), ["under", "lid0", "lid1", "lid2"])
        self.assertEqual(seen((under, *lids[:3]), (0, 0, 3, 1)), ["lid0", "lid1", "lid2"])
        self.assertEqual(seen((under, *lids), (10, 0, 14, 1)), [])
        clear = item("clear", 2, 0, 0, filled(4, 1, 0))
        self.assertEqual((seen((clear,), (0, 0, 4, 1)), top_item((clear,), 0, 0)), ([], None))

    def test_windows_in_windows(self):
        cases = Cases(174)
        for _ in range(150):
            scene, window = some_scene(cases), some_window(cases)
            x0, y0, x1, y1 = window
            left, above = cases.whole(x0, x1 - 1), cases.whole(y0, y1 - 1)
            inner = left, above, cases.whole(left + 1, x1), cases.whole(above + 1, y1)
            part = inner[0] - x0, inner[1] - y0, inner[2] - x0, inner[3] - y0
            self.assertEqual(view(scene, inner, 3), cropped(view(scene, window, 3), part))

    def test_mirrored_scenes(self):
        cases = Cases(175)
        for _ in range(150):
            scene, window = some_scene(cases), some_window(cases)
            x0, _, x1, _ = window
            turned = tuple((name, layer, x0 + x1 - box_of(some)[2], y, sprite, not is_mirrored)
                           for some in scene for name, layer, x, y, sprite, is_mirrored in [some])
            self.assertEqual(view(turned, window, 3), mirrored(view(scene, window, 3)))

    def test_arguments(self):
        scene = (ITEM, LID)
        check_arguments(self, in_order, (FORTY,), (("scene", NO_SCENES),))
        wrong = (("scene", NO_SCENES[::5] + NO_SCENES[:12]), ("window", NO_WINDOWS), ("ground", NO_COLOURS))
        check_arguments(self, view, (scene, (0, 0, 64, 64), 63), wrong)
        check_arguments(self, seen, (scene, (FAR - 64, -FAR, FAR, 64 - FAR)), wrong[:2])
        for some in (scene, ()):
            check_arguments(self, top_item, (some, FAR, -FAR), (wrong[0], ("x", NO_COORDINATES), ("y", NO_COORDINATES)))


def some_change(cases, scene):
    """Change some items of a scene: move, turn, drop or add them."""
    items = []
    for some in scene:
        kind = cases.whole(0, 9)
        name, layer, x, y, sprite, is_mirrored = some
        if kind == 0:
            some = (name, layer, x + cases.whole(-2, 2), y + cases.whole(-1, 1), sprite, is_mirrored)
        elif kind == 1:
            some = (name, layer, x, y, sprite, not is_mirrored)
        elif kind == 2:
            some = (name, cases.whole(-1, 1), x, y, some_picture(cases, 3), is_mirrored)
        if kind != 3:
            items.append(some)
    names = [some[0] for some in items]
    items += [some for some in some_scene(cases, 2) if some[0] not in names and cases.whole(0, 1)]
    return tuple(items[::-1] if cases.whole(0, 1) else items)


class ChangeTests(unittest.TestCase):
    def test_changed_boxes(self):
        a, b = item("a", 0, 5, 5, ((1, 2),)), item("b", 0, -3, 7, ((1,), (2,)))
        self.assertEqual(changed_boxes((), ()), [])
        self.assertEqual(changed_boxes((a, b), (b, a)), [])
        self.assertEqual(changed_boxes((a,), ()), [(5, 5, 7, 6)])
        self.assertEqual(changed_boxes((), (a, b)), [(-3, 7, -2, 9), (5, 5, 7, 6)])
        self.assertEqual(changed_boxes((a, b), (b, (*a[:2], 6, 5, *a[4:]))), [(5, 5, 7, 6), (6, 5, 8, 6)])
        # Turned, raised, renamed or drawn otherwise, it keeps its box, which stands once.
        for other in ((*a[:5], True), ("a", 1, *a[2:]), ("c", *a[1:]), (*a[:4], ((2, 1),), False)):
            self.assertEqual(changed_boxes((a, b), (other, b)), [(5, 5, 7, 6)])
        self.assertEqual(changed_boxes((a, ("c", *a[1:])), ()), [(5, 5, 7, 6)])

    def test_boxes_in_order(self):
        sprites = {(width, height): filled(width, height, 1) for width in (1, 2) for height in (1, 2)}
        boxes = [(x, y, x + width, y + height) for x in (-1, 0, 10) for y in (-10, 2) for width in (1, 2) for height in (1, 2)]
        scene = tuple(item(f"i{index}", 0, box[0], box[1], sprites[box[2] - box[0], box[3] - box[1]]) for index, box in enumerate(boxes))
        for old, new in ((scene[::-1], ()), ((), scene[::-1]), (scene[:9], scene[9:])):
            self.assertEqual(check_pure(self, changed_boxes, old, new), boxes)

    def test_outside_of_the_boxes_views_are_equal(self):
        cases = Cases(176)
        for _ in range(250):
            old = some_scene(cases)
            new, window, ground = some_change(cases, old), some_window(cases), cases.one((0, 9))
            boxes = check_pure(self, changed_boxes, old, new)
            self.assertEqual(boxes, sorted({box_of(some) for some in set(old) ^ set(new)}))
            before, after = view(old, window, ground), view(new, window, ground)
            for y, x in itertools.product(range(window[1], window[3]), range(window[0], window[2])):
                if not any(box[0] <= x < box[2] and box[1] <= y < box[3] for box in boxes):
                    self.assertEqual(before[y - window[1]][x - window[0]], after[y - window[1]][x - window[0]])
            self.assertEqual(check_pure(self, redrawn, before, window, ground, new, boxes), after)

    def test_redrawn(self):
        old = filled(4, 1, 60)
        self.assertEqual(redrawn(old, WINDOW, 7, (ITEM,), []), old)
        self.assertEqual(redrawn(old, WINDOW, 7, (ITEM,), [(4, 0, 5, 1)]), ((60, 60, 5, 60),))
        self.assertEqual(redrawn(old, WINDOW, 7, (ITEM,), [(5, -9, 99, 99), (2, 0, 3, 1)]), ((7, 60, 60, 7),))
        self.assertEqual(redrawn(old, WINDOW, 7, (ITEM,), [(-FAR, -FAR, FAR, FAR)] * 100), ((7, 7, 5, 7),))
        for box in ((6, 0, 9, 1), (-2, 0, 2, 1), (2, 1, 6, 2), (2, -1, 6, 0), (FAR - 1, FAR - 1, FAR, FAR), (7, 0, 20, 1), (-FAR, 0, 1, 1)):
            self.assertEqual(redrawn(old, WINDOW, 7, (ITEM,), [box]), old)
        # The old view may be any picture.
        self.assertEqual(redrawn(((0, 1, 2, 3),), WINDOW, 0, (), [(3, 0, 5, 1)]), ((0, 0, 0, 3),))

    def test_drawn_boxes(self):
        cases = Cases(177)
        for _ in range(200):
            scene, window = some_scene(cases), some_window(cases)
            x0, y0, x1, y1 = window
            old = some_picture(cases, size=(x1 - x0, y1 - y0))
            boxes = [some_window(cases, 9, 6) for _ in range(cases.whole(0, 4))]
            new = view(scene, window, 9)

            def colour(i, j):
                is_inside = any(box[0] <= x0 + i < box[2] and box[1] <= y0 + j < box[3] for box in boxes)
                return (new if is_inside else old)[j][i]
            self.assertEqual(check_pure(self, redrawn, old, window, 9, scene, boxes), picture_of(x1 - x0, y1 - y0, colour))

    def test_arguments(self):
        few = NO_SCENES[::9] + NO_SCENES[:12]
        check_arguments(self, changed_boxes, (FORTY, (ITEM,)), (("old", NO_SCENES), ("new", few)))
        boxes = (None, True, 5, "", (), ((0, 0, 1, 1),), {}, [(0, 0, 1, 1)] * 101, *[[box] for box in NO_BOXES], [(0, 0, 1, 1), None])
        wrong = (("view", NO_PICTURES), ("window", NO_WINDOWS), ("ground", NO_COLOURS), ("scene", few), ("boxes", boxes))
        check_arguments(self, redrawn, (LARGEST, (0, 0, 64, 64), 0, (ITEM,), [(0, 0, 1, 1)] * 100), wrong)

    def test_the_size_of_the_view(self):
        """It is asked last."""
        arguments = [filled(4, 1, 0), WINDOW, 7, (ITEM,), []]
        for some in (filled(4, 2, 0), filled(1, 4, 0), filled(3, 1, 0), filled(5, 1, 0), LARGEST):
            with self.assertRaises(BadValue) as caught:
                redrawn(some, *arguments[1:])
            self.assertEqual(caught.exception.name, "view")
            for place, name, values in ((1, "window", NO_WINDOWS), (2, "ground", NO_INTEGERS), (3, "scene", NO_SCENES[:9]), (4, "boxes", (None, [5]))):
                for value in values:
                    with self.assertRaises(BadValue) as caught:
                        redrawn(some, *arguments[1:place], value, *arguments[place + 1:])
                    self.assertEqual(caught.exception.name, name)


if __name__ == "__main__":
    unittest.main()
