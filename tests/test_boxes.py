"""Points 4, 29 and 30: boxes."""

import unittest

from alikeplay.boxes import common, has_point, is_box, overlap, shifted, united
from helpers import NO_INTEGERS, Cases, check_arguments, check_pure

FAR = 20000
WORLD = (-FAR, -FAR, FAR, FAR)
NO_BOXES = ((0, 0, 0, 1), (0, 0, 1, 0), (1, 0, 0, 1), (0, 1, 1, 0), (0, 0, 1), (0, 0, 1, 1, 1), (), [0, 0, 1, 1],
            "0011", None, 5, True, (0, 0, True, 1), (False, 0, 1, 1), (0, 0, 1.0, 1), (0, 0, 1, "1"), (0, 0, None, 1),
            (-FAR - 1, 0, 1, 1), (0, -FAR - 1, 1, 1), (0, 0, FAR + 1, 1), (0, 0, 1, FAR + 1), ((0, 0), (1, 1)), {})
NO_COORDINATES = (FAR + 1, -FAR - 1, 2 ** 64, *NO_INTEGERS)
NO_SHIFTS = (40001, -40001, 2 ** 64, *NO_INTEGERS)


def points(box):
    return {(x, y) for x in range(box[0], box[2]) for y in range(box[1], box[3])}


def some_boxes():
    cases = Cases(5)
    found = []
    for _ in range(40):
        x, y = cases.whole(-5, 5), cases.whole(-5, 5)
        found.append((x, y, x + cases.whole(1, 6), y + cases.whole(1, 6)))
    return found


class BoxTests(unittest.TestCase):
    def test_is_box(self):
        for box in (WORLD, (0, 0, 1, 1), (-FAR, -FAR, 1 - FAR, 1 - FAR), (FAR - 1, FAR - 1, FAR, FAR)):
            self.assertIs(is_box(box), True)
        for value in NO_BOXES:
            self.assertIs(is_box(value), False)

    def test_against_points(self):
        for first in some_boxes():
            for second in some_boxes():
                both = points(first) & points(second)
                self.assertIs(overlap(first, second), bool(both))
                found = check_pure(self, common, first, second)
                self.assertEqual(both, points(found) if found else set())
                self.assertTrue(found is None or is_box(found))

    def test_united(self):
        for first in some_boxes():
            for second in some_boxes():
                every = points(first) | points(second)
                xs, ys = [x for x, _ in every], [y for _, y in every]
                self.assertEqual(united(first, second), (min(xs), min(ys), max(xs) + 1, max(ys) + 1))

    def test_touching_boxes_do_not_overlap(self):
        middle = (0, 0, 4, 4)
        for other in ((4, 0, 8, 4), (-4, 0, 0, 4), (0, 4, 4, 8), (0, -4, 4, 0), (4, 4, 5, 5), (-1, -1, 0, 0)):
            self.assertIs(overlap(middle, other), False)
            self.assertIsNone(common(middle, other))

    def test_one_shared_point(self):
        self.assertIs(overlap((0, 0, 4, 4), (3, 3, 9, 9)), True)
        self.assertEqual(common((0, 0, 4, 4), (3, 3, 9, 9)), (3, 3, 4, 4))
        self.assertEqual(common((0, 0, 4, 4), (-3, -3, 1, 1)), (0, 0, 1, 1))

    def test_limits(self):
        corner = (FAR - 1, FAR - 1, FAR, FAR)
        self.assertIs(overlap(WORLD, corner), True)
        self.assertEqual(common(WORLD, corner), corner)
        self.assertEqual(united((-FAR, -FAR, 1 - FAR, 1 - FAR), corner), WORLD)

    def test_errors(self):
        for function in (overlap, common, united):
            check_arguments(self, function, (WORLD, (0, 0, 1, 1)), (("first", NO_BOXES), ("second", NO_BOXES)))


class ShiftTests(unittest.TestCase):
    def test_shifted(self):
        self.assertEqual(shifted((1, 2, 4, 8), 10, -20), (11, -18, 14, -12))
        self.assertEqual(shifted((1, 2, 4, 8), 0, 0), (1, 2, 4, 8))

    def test_may_lie_outside(self):
        self.assertEqual(shifted(WORLD, 40000, -40000), (FAR, -60000, 60000, -FAR))
        self.assertEqual(shifted(WORLD, -40000, 40000), (-60000, FAR, -FAR, 60000))

    def test_errors(self):
        check_arguments(self, shifted, (WORLD, 40000, -40000), (("box", NO_BOXES), ("dx", NO_SHIFTS),
                                                                ("dy", NO_SHIFTS)))


class PointTests(unittest.TestCase):
    def test_against_points(self):
        for box in some_boxes():
            inside = points(box)
            for x in range(-7, 13):
                for y in range(-7, 13):
                    self.assertIs(has_point(box, x, y), (x, y) in inside)

    def test_limits(self):
        self.assertIs(has_point(WORLD, -FAR, -FAR), True)
        self.assertIs(has_point(WORLD, FAR, 0), False)
        self.assertIs(has_point(WORLD, 0, FAR), False)
        self.assertIs(has_point(WORLD, FAR - 1, FAR - 1), True)

    def test_errors(self):
        wrong = (("box", NO_BOXES), ("x", NO_COORDINATES), ("y", NO_COORDINATES))
        check_arguments(self, has_point, (WORLD, FAR, -FAR), wrong)


if __name__ == "__main__":
    unittest.main()
