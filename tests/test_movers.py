"""Points 35 to 39, 41, 43 and 44: moves, standing, holding and rays."""

import unittest
from fractions import Fraction

from alikeplay.grids import mirrored_grid
from alikeplay.movers import cast, held, moved, stands
from helpers import NO_INTEGERS, NO_TUPLES, Cases, check_arguments, check_pure
from test_grids import (
    FAR, GRID, LONGEST_BOXES, NO_GRIDS, NO_SIZED_BOXES, cells_around, free, sign_of, some_box, some_grids,
)

NO_MOVES = (2001, -2001, 10 ** 9, *NO_INTEGERS)
NO_FLAGS = (0, 1, None, "", "True", (), [], 1.0)
NO_POINTS = (*NO_TUPLES, (), (0,), (0, 0, 0), [0, 0], (FAR + 1, 0), (0, FAR + 1), (-FAR - 1, 0), (0, -FAR - 1),
             (True, 0), (0, False), (0.0, 0), ("0", 0), (None, 0), ((0, 0), 0))


def on_sign(grid, box, signs):
    """Tell whether the box stands on a cell with one of the signs, as point 35 tells it."""
    return any(sign_of(grid, *cell) in signs and 16 * cell[1] == box[3]
               and box[0] < 16 * cell[0] + 16 and 16 * cell[0] < box[2] for cell in cells_around(box))


def slow_move(grid, box, dx, dy, through):
    """Move a box word by word as point 36 tells it, unit by unit."""
    if not free(grid, box):
        return box, 0, 0
    hits = []
    for axis, many in ((0, dx), (1, dy)):
        sign = (many > 0) - (many < 0)
        hit = 0
        for _ in range(abs(many)):
            ahead = list(box)
            ahead[axis] += sign
            ahead[axis + 2] += sign
            shelf = axis == 1 and sign > 0 and not through and on_sign(grid, box, "^")
            if shelf or not free(grid, ahead):
                hit = sign
                break
            box = tuple(ahead)
        hits.append(hit)
    return box, *hits


def slow_cast(grid, start, end):
    """Look for the first wall at all the times at which a ray can come to an edge."""
    ways = [end[0] - start[0], end[1] - start[1]]
    found = []
    for row in range(grid[1]):
        for column in range(grid[0]):
            if sign_of(grid, column, row) != "#":
                continue
            low = (16 * column, 16 * row)
            times = [Fraction(0)] + [Fraction(low[k] + more - start[k], ways[k])
                                     for k in (0, 1) if ways[k] for more in (0, 16)]
            inside = [t for t in times if 0 <= t <= 1
                      and all(low[k] <= start[k] + t * ways[k] <= low[k] + 16 for k in (0, 1))]
            if inside:
                found.append((min(inside), row, column))
    if not found:
        return None
    t, row, column = min(found)
    return (column, row), (t.numerator, t.denominator), slow_face(start, ways, t, (16 * column, 16 * row))


def slow_face(start, ways, t, low):
    if t == 0:
        return "inside"
    comes = []
    for k in (0, 1):
        if low[k] <= start[k] <= low[k] + 16:
            comes.append(Fraction(-1))
        else:
            comes.append(min(Fraction(low[k] + more - start[k], ways[k]) for more in (0, 16)))
    if comes[0] >= comes[1]:
        return "left" if ways[0] > 0 else "right"
    return "top" if ways[1] > 0 else "bottom"


class DocumentTests(unittest.TestCase):
    def test_document(self):
        self.assertEqual(moved(GRID, (0, 16, 8, 24), 0, 300, False), ((0, 24, 8, 32), 0, 1))
        self.assertEqual(moved(GRID, (18, 4, 26, 12), 0, 30, False), ((18, 8, 26, 16), 0, 1))
        self.assertEqual(moved(GRID, (18, 4, 26, 12), 0, 30, True), ((18, 24, 26, 32), 0, 1))
        self.assertEqual(moved(GRID, (18, 20, 26, 28), -500, -500, False), ((0, -480, 8, -472), -1, 0))
        self.assertIs(stands(GRID, (18, 8, 26, 16)), True)
        self.assertEqual(cast(GRID, (1, 1), (1, 61)), ((0, 2), (31, 60), "top"))


class MoveTests(unittest.TestCase):
    def test_word_by_word(self):
        cases = Cases(13)
        for grid in some_grids(120, 5, "....#^~"):
            for _ in range(12):
                box = some_box(cases, grid, 20)
                dx, dy = cases.whole(-50, 50), cases.whole(-50, 50)
                for through in (True, False):
                    found = moved(grid, box, dx, dy, through)
                    self.assertEqual(found, slow_move(grid, box, dx, dy, through), (grid, box, dx, dy, through))

    def test_a_box_that_is_not_free_stays(self):
        for box in ((40, 30, 50, 40), (-1, 0, 5, 5), (40, 0, 49, 5)):
            self.assertEqual(moved(GRID, box, 7, 8, True), (box, 0, 0))
            self.assertEqual(moved(GRID, box, -7, -8, False), (box, 0, 0))

    def test_no_move(self):
        for box in ((18, 8, 26, 16), (0, 0, 48, 16), (40, 30, 50, 40)):
            self.assertEqual(moved(GRID, box, 0, 0, False), (box, 0, 0))

    def test_touching_walls_are_hit_at_once(self):
        self.assertEqual(moved(GRID, (0, 0, 48, 32), 1, 1, True), ((0, 0, 48, 32), 1, 1))
        self.assertEqual(moved(GRID, (0, 0, 48, 32), -1, -1, True), ((0, -1, 48, 31), -1, 0))
        self.assertEqual(moved((1, 2, "#."), (0, 16, 16, 32), 0, -1, False), ((0, 16, 16, 32), 0, -1))

    def test_the_last_unit_is_no_hit(self):
        self.assertEqual(moved(GRID, (0, 0, 8, 8), 40, 24, False), ((40, 24, 48, 32), 0, 0))
        self.assertEqual(moved(GRID, (0, 0, 8, 8), 41, 25, False), ((40, 24, 48, 32), 1, 1))

    def test_across_comes_first(self):
        grid = (2, 2, "...#")
        self.assertEqual(moved(grid, (0, 0, 16, 16), 16, 16, False), ((16, 0, 32, 16), 0, 1))
        self.assertEqual(moved(grid, (0, 16, 16, 32), 16, -16, False), ((0, 0, 16, 16), 1, 0))

    def test_thin_walls_stop_the_fastest(self):
        grid = (40, 1, "." * 20 + "#" + "." * 19)
        self.assertEqual(moved(grid, (0, 0, 1, 1), 2000, 0, True), ((319, 0, 320, 1), 1, 0))
        self.assertEqual(moved(grid, (639, 0, 640, 1), -2000, 0, True), ((336, 0, 337, 1), -1, 0))

    def test_moves_of_2000_units(self):
        self.assertEqual(moved(GRID, (0, -FAR, 8, 8 - FAR), 0, -2000, False), ((0, -FAR - 2000, 8, -FAR - 1992), 0, 0))
        self.assertEqual(moved(GRID, (0, FAR - 8, 8, FAR), 0, 2000, False), ((0, FAR + 1992, 8, FAR + 2000), 0, 0))
        self.assertEqual(moved(GRID, (0, 0, 8, 8), 0, 2000, True), ((0, 24, 8, 32), 0, 1))

    def test_shelves(self):
        grid = (1, 4, "..^.")
        self.assertEqual(moved(grid, (0, 0, 16, 16), 0, 99, False), ((0, 16, 16, 32), 0, 1))
        self.assertEqual(moved(grid, (0, 0, 16, 16), 0, 99, True), ((0, 99, 16, 115), 0, 0))
        self.assertEqual(moved(grid, (0, 48, 16, 64), 0, -48, False), ((0, 0, 16, 16), 0, 0))
        # In a shelf, or with the feet a unit below its top, a box falls on.
        self.assertEqual(moved(grid, (0, 17, 16, 33), 0, 99, False), ((0, 116, 16, 132), 0, 0))
        self.assertEqual(moved(grid, (0, 16, 16, 32), 0, 1, False), ((0, 16, 16, 32), 0, 1))
        self.assertEqual(moved(grid, (0, 15, 16, 31), 0, 1, False), ((0, 16, 16, 32), 0, 0))

    def test_shelves_do_not_stop_moves_across(self):
        self.assertEqual(moved((3, 1, ".^."), (0, 0, 16, 16), 32, 0, False), ((32, 0, 48, 16), 0, 0))

    def test_a_shelf_at_the_edge_of_a_box_does_not_stop_it(self):
        self.assertEqual(moved((2, 2, "...^"), (0, 0, 16, 16), 0, 9, False), ((0, 9, 16, 25), 0, 0))
        self.assertEqual(moved((2, 2, "...^"), (1, 0, 17, 16), 0, 9, False), ((1, 0, 17, 16), 0, 1))

    def test_a_gap_as_wide_as_the_box(self):
        grid = (3, 3, "...#.##.#")
        self.assertEqual(moved(grid, (16, 0, 32, 16), 0, 500, False), ((16, 500, 32, 516), 0, 0))
        self.assertEqual(moved(grid, (15, 0, 31, 16), 0, 500, False), ((15, 0, 31, 16), 0, 1))
        self.assertEqual(moved(grid, (16, 0, 33, 16), 0, 500, False), ((16, 0, 33, 16), 0, 1))
        self.assertEqual(moved(grid, (16, 20, 32, 36), 9, 0, False), ((16, 20, 32, 36), 1, 0))

    def test_the_longest_boxes(self):
        grid = (40, 40, "." * 1600)
        self.assertEqual(moved(grid, (0, 0, 640, 640), 5, 2000, False), ((0, 2000, 640, 2640), 1, 0))

    def test_errors(self):
        wrong = (("grid", NO_GRIDS), ("box", NO_SIZED_BOXES), ("dx", NO_MOVES), ("dy", NO_MOVES), ("through", NO_FLAGS))
        for dx, dy, through in ((2000, -2000, True), (-2000, 2000, False)):
            for box in LONGEST_BOXES:
                check_arguments(self, moved, (GRID, box, dx, dy, through), wrong)


class MoveLawTests(unittest.TestCase):
    def rows(self, count):
        cases = Cases(14)
        for grid in some_grids(count, 6, ".....#^~"):
            for _ in range(6):
                yield grid, some_box(cases, grid, 30), cases.whole(-300, 300), cases.whole(-300, 300), cases

    def test_free_boxes_stay_free(self):
        for grid, box, dx, dy, cases in self.rows(100):
            found = moved(grid, box, dx, dy, cases.one((True, False)))[0]
            self.assertEqual(free(grid, found), free(grid, box))
            self.assertEqual((found[2] - found[0], found[3] - found[1]), (box[2] - box[0], box[3] - box[1]))

    def test_moves_across_add_up(self):
        for grid, box, dx, _, cases in self.rows(100):
            a = cases.whole(min(0, dx), max(0, dx))
            self.assertEqual(moved(grid, moved(grid, box, a, 0, False)[0], dx - a, 0, False)[0],
                             moved(grid, box, dx, 0, False)[0])

    def test_mirror(self):
        for grid, box, dx, dy, cases in self.rows(100):
            wide, through = 16 * grid[0], cases.one((True, False))
            mirror = (wide - box[2], box[1], wide - box[0], box[3])
            (x0, y0, x1, y1), across, down = moved(grid, box, dx, dy, through)
            self.assertEqual(moved(mirrored_grid(grid), mirror, -dx, dy, through),
                             ((wide - x1, y0, wide - x0, y1), -across, down))

    def test_shelves_are_open_to_what_goes_up_or_passes(self):
        for grid, box, dx, dy, _ in self.rows(100):
            opened = (grid[0], grid[1], grid[2].replace("^", "."))
            self.assertEqual(moved(grid, box, dx, dy, True), moved(opened, box, dx, dy, False))
            self.assertEqual(moved(grid, box, dx, -abs(dy), False), moved(opened, box, dx, -abs(dy), False))


class StandTests(unittest.TestCase):
    def test_word_by_word(self):
        cases = Cases(15)
        standing = 0
        for grid in some_grids(150, 5):
            for _ in range(20):
                box = some_box(cases, grid)
                standing += stands(grid, box)
                self.assertIs(stands(grid, box), on_sign(grid, box, "#^"))
        self.assertGreater(standing, 300)

    def test_signs(self):
        self.assertEqual([stands((1, 2, "." + sign), (0, 0, 16, 16)) for sign in ".~#^"], [False, False, True, True])

    def test_outside(self):
        grid = (1, 1, ".")
        self.assertEqual([stands(grid, box) for box in ((-1, 0, 5, 32), (0, 0, 17, 96), (-5, -40, -1, -32))],
                         [True] * 3)
        self.assertEqual([stands(grid, box) for box in ((0, 0, 16, 16), (0, 0, 16, 32), (-1, 0, 5, 33))], [False] * 3)

    def test_a_neighbour_is_not_stood_on(self):
        grid = (3, 2, "...#.#")
        self.assertEqual([stands(grid, (x, 0, x + 16, 16)) for x in (15, 16, 17)], [True, False, True])

    def test_errors(self):
        check_arguments(self, stands, (GRID, LONGEST_BOXES[1]), (("grid", NO_GRIDS), ("box", NO_SIZED_BOXES)))


class HoldTests(unittest.TestCase):
    def test_word_by_word(self):
        cases = Cases(16)
        for grid in some_grids(80, 4):
            boxes = []
            for _ in range(cases.whole(0, 30)):
                x, y = 8 * cases.whole(-2, 8), 8 * cases.whole(-4, 8)
                boxes.append((x, y, x + 8 * cases.whole(1, 3), y + 8 * cases.whole(1, 3)))
            known = [on_sign(grid, box, "#^") for box in boxes]
            for _ in boxes:
                known = [flag or any(known[k] and box[3] == boxes[k][1] and box[0] < boxes[k][2]
                                     and boxes[k][0] < box[2] for k in range(len(boxes)))
                         for flag, box in zip(known, boxes)]
            self.assertEqual(check_pure(self, held, grid, boxes), known)

    def test_towers(self):
        tower = [(0, 32 - 4 * k - 4, 8, 32 - 4 * k) for k in range(30)]
        self.assertEqual(held(GRID, tower), [True] * 30)
        self.assertEqual(held(GRID, tower[::-1]), [True] * 30)
        self.assertEqual(held(GRID, tower[1:]), [False] * 29)
        self.assertEqual(held(GRID, tower[:3] + tower[4:]), [True] * 3 + [False] * 26)

    def test_columns_that_only_touch(self):
        self.assertEqual(held(GRID, [(0, 24, 8, 32), (8, 16, 16, 24), (7, 16, 15, 24)]), [True, False, True])

    def test_boxes_that_hold_nothing(self):
        self.assertEqual(held(GRID, []), [])
        self.assertEqual(held(GRID, [(0, 0, 8, 8), (0, 8, 8, 16)]), [False, False])
        self.assertEqual(held(GRID, [(0, 0, 8, 8), (0, 0, 8, 8)]), [False, False])

    def test_shelves_and_walls_outside_hold(self):
        self.assertEqual(held(GRID, [(20, 8, 24, 16), (-4, 0, 4, 48), (0, -8, 4, 0)]), [True, True, True])

    def test_flags(self):
        for flag in held(GRID, [(0, 24, 8, 32), (0, 0, 8, 8)]):
            self.assertIn(flag, (True, False))
            self.assertIsInstance(flag, bool)

    def test_errors(self):
        boxes = [(0, 0, 640, 640)] * 30
        wrong = [None, 5, "", (), tuple(boxes), boxes + boxes[:1], {}] + [[box] for box in NO_SIZED_BOXES]
        wrong += [[boxes[0], box] for box in NO_SIZED_BOXES]
        check_arguments(self, held, (GRID, boxes), (("grid", NO_GRIDS), ("boxes", wrong)))


class RayTests(unittest.TestCase):
    def test_word_by_word(self):
        cases = Cases(17)
        faces = {}
        for grid in some_grids(150, 5, ".....#^~"):
            for _ in range(20):
                points = [tuple(cases.one((16 * cases.whole(-1, many + 1), cases.whole(-20, 16 * many + 20)))
                                for many in grid[:2]) for _ in range(2)]
                found = cast(grid, *points)
                self.assertEqual(found, slow_cast(grid, *points), (grid, points))
                faces[found and found[2]] = faces.get(found and found[2], 0) + 1
        self.assertEqual(sorted(map(str, faces)), ["None", "bottom", "inside", "left", "right", "top"])
        self.assertGreater(min(faces.values()), 50)

    def test_rays_of_no_length(self):
        grid = (3, 3, "....#....")
        for point in ((16, 16), (32, 32), (16, 32), (20, 20), (16, 20), (20, 32)):
            self.assertEqual(cast(grid, point, point), ((1, 1), (0, 1), "inside"))
        for point in ((15, 16), (33, 32), (20, 33), (20, 15)):
            self.assertIsNone(cast(grid, point, point))

    def test_straight_rays(self):
        grid = (3, 3, "....#....")
        self.assertEqual(cast(grid, (0, 20), (48, 20)), ((1, 1), (1, 3), "left"))
        self.assertEqual(cast(grid, (48, 20), (0, 20)), ((1, 1), (1, 3), "right"))
        self.assertEqual(cast(grid, (20, 0), (20, 48)), ((1, 1), (1, 3), "top"))
        self.assertEqual(cast(grid, (20, 48), (20, 0)), ((1, 1), (1, 3), "bottom"))

    def test_rays_along_edges_hit(self):
        grid = (3, 3, "....#....")
        self.assertEqual(cast(grid, (0, 16), (48, 16)), ((1, 1), (1, 3), "left"))
        self.assertEqual(cast(grid, (0, 32), (48, 32)), ((1, 1), (1, 3), "left"))
        self.assertEqual(cast(grid, (32, 48), (32, 0)), ((1, 1), (1, 3), "bottom"))
        self.assertIsNone(cast(grid, (0, 15), (48, 15)))
        self.assertIsNone(cast(grid, (33, 0), (33, 48)))

    def test_corners(self):
        grid = (3, 3, "....#....")
        self.assertEqual(cast(grid, (0, 0), (48, 48)), ((1, 1), (1, 3), "left"))
        self.assertEqual(cast(grid, (48, 48), (0, 0)), ((1, 1), (1, 3), "right"))
        self.assertEqual(cast(grid, (0, 32), (32, 0)), ((1, 1), (1, 2), "left"))
        self.assertEqual(cast(grid, (16, 0), (48, 32)), ((1, 1), (1, 2), "top"))
        self.assertIsNone(cast(grid, (17, 0), (49, 32)))
        self.assertIsNone(cast(grid, (32, 64), (64, 0)))
        self.assertEqual(cast(grid, (24, 8), (40, 24)), ((1, 1), (1, 2), "top"))

    def test_start_at_the_edge_of_the_columns(self):
        # Its x is in the range of the columns at the beginning, so it comes into the rows later.
        grid = (3, 3, "....#....")
        self.assertEqual(cast(grid, (16, 0), (17, 32)), ((1, 1), (1, 2), "top"))
        self.assertEqual(cast(grid, (0, 16), (32, 17)), ((1, 1), (1, 2), "left"))
        self.assertIsNone(cast(grid, (32, 0), (64, 32)))

    def test_the_end_of_a_ray_hits(self):
        grid = (3, 3, "....#....")
        self.assertEqual(cast(grid, (0, 20), (16, 20)), ((1, 1), (1, 1), "left"))
        self.assertEqual(cast(grid, (15, 20), (16, 20)), ((1, 1), (1, 1), "left"))
        self.assertEqual(cast(grid, (20, 15), (20, 16)), ((1, 1), (1, 1), "top"))
        self.assertEqual(cast(grid, (20, 33), (20, 32)), ((1, 1), (1, 1), "bottom"))
        self.assertIsNone(cast(grid, (0, 20), (15, 20)))
        self.assertEqual(cast(grid, (0, 0), (16, 16)), ((1, 1), (1, 1), "left"))

    def test_of_several_the_first_row_and_column(self):
        grid = (2, 2, "####")
        self.assertEqual(cast(grid, (16, 16), (0, 0)), ((0, 0), (0, 1), "inside"))
        self.assertEqual(cast((2, 2, ".###"), (16, 16), (0, 0)), ((1, 0), (0, 1), "inside"))
        self.assertEqual(cast((2, 2, "..##"), (16, 0), (16, 32)), ((0, 1), (1, 2), "top"))
        self.assertEqual(cast((2, 2, "#.#."), (32, 16), (0, 16)), ((0, 0), (1, 2), "right"))

    def test_only_walls_of_the_grid_are_hit(self):
        self.assertIsNone(cast((2, 1, "^~"), (-FAR, 8), (FAR, 8)))
        self.assertEqual(cast((2, 1, "^#"), (-FAR, 8), (FAR, 8)), ((1, 0), (1251, 2500), "left"))

    def test_the_longest_rays(self):
        found = cast((40, 40, "." * 1599 + "#"), (-FAR, -FAR), (FAR, FAR - 1))
        self.assertEqual(found, slow_cast((40, 40, "." * 1599 + "#"), (-FAR, -FAR), (FAR, FAR - 1)))
        self.assertIsNotNone(found)

    def test_errors(self):
        wrong = (("grid", NO_GRIDS), ("start", NO_POINTS), ("end", NO_POINTS))
        check_arguments(self, cast, (GRID, (-FAR, FAR), (FAR, -FAR)), wrong)


if __name__ == "__main__":
    unittest.main()
