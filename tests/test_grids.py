"""Points 33, 34 and 40 to 44: grids, free boxes and the boxes of walls."""

import unittest

from alikeplay.grids import (
    cells_met, is_free, is_grid, mirrored_grid, sign_at, wall_boxes, with_sign,
)
from helpers import NO_INTEGERS, NO_TUPLES, Cases, check_arguments, check_pure
from test_boxes import NO_BOXES

FAR = 20000
GRID = (3, 3, "....^.###")
LARGEST = (40, 40, "#.^~" * 400)
NO_GRIDS = (*NO_TUPLES, (3, 3, "........"), (3, 3, "." * 10), (0, 3, ""), (3, 0, ""), (41, 1, "." * 41),
            (1, 41, "." * 41), (-1, -1, "."), (True, 1, "."), (1, True, "."), (1, 1, "x"), (1, 1, " "), (1, 1, ""),
            (1, 1, None), (1, 1, 1), (2, 1, "#\n"), (2, 1, [".", "."]), (2, 1, (".", ".")), (1, 1, b"."), (1.0, 1, "."),
            (1, 1), (1, 1, ".", "."), [1, 1, "."], ("1", 1, "."), (3, 3, "....v.###"), (None, 1, "."))
# Boxes that functions of grids and movers refuse.
NO_SIZED_BOXES = (*NO_BOXES, (0, 0, 641, 1), (0, 0, 1, 641), (-FAR, -FAR, FAR, FAR))
LONGEST_BOXES = ((0, 0, 640, 640), (FAR - 640, -FAR, FAR, 640 - FAR))


def some_grid(cases, longest, signs=".#^~..##"):
    columns, rows = cases.whole(1, longest), cases.whole(1, longest)
    return columns, rows, "".join(cases.one(signs) for _ in range(columns * rows))


def some_grids(count, longest, signs=".#^~..##"):
    cases = Cases(10)
    return [some_grid(cases, longest, signs) for _ in range(count)]


def sign_of(grid, column, row):
    """Return the sign of a cell as point 33 tells it."""
    columns, rows, cells = grid
    if column < 0 or column > columns - 1:
        return "#"
    if row < 0 or row > rows - 1:
        return "."
    return cells[row * columns + column]


def meets(box, column, row):
    return (box[0] < 16 * column + 16 and 16 * column < box[2]
            and box[1] < 16 * row + 16 and 16 * row < box[3])


def cells_around(box):
    return [(column, row) for row in range(box[1] // 16 - 2, box[3] // 16 + 3)
            for column in range(box[0] // 16 - 2, box[2] // 16 + 3)]


def free(grid, box):
    return not any(sign_of(grid, *cell) == "#" and meets(box, *cell) for cell in cells_around(box))


def some_box(cases, grid, side=40):
    """Return a box in the grid or near it, often at the edges of cells."""
    width, height = (cases.one((1, 8, 15, 16, 17, 32, cases.whole(1, side))) for _ in range(2))
    x = cases.one((16 * cases.whole(-2, grid[0] + 1), cases.whole(-30, 16 * grid[0] + 20)))
    y = cases.one((16 * cases.whole(-2, grid[1] + 1), cases.whole(-30, 16 * grid[1] + 20)))
    x, y = cases.one(((x, y), (x - width, y), (x, y - height), (x - width, y - height)))
    return x, y, x + width, y + height


def slow_wall_boxes(grid):
    """Cover the walls word by word as point 40 tells it."""
    columns, rows, _ = grid
    bare = {(c, r) for c in range(columns) for r in range(rows) if sign_of(grid, c, r) == "#"}
    found = []
    while bare:
        row, column = min((r, c) for c, r in bare)
        right = column
        while (right + 1, row) in bare:
            right += 1
        below = row
        while {(c, below + 1) for c in range(column, right + 1)} <= bare:
            below += 1
        bare -= {(c, r) for c in range(column, right + 1) for r in range(row, below + 1)}
        found.append((16 * column, 16 * row, 16 * right + 16, 16 * below + 16))
    return found


class GridTests(unittest.TestCase):
    def test_is_grid(self):
        for grid in (GRID, (1, 1, "."), (40, 40, "~" * 1600), LARGEST, (40, 1, "#" * 40), (1, 40, "^" * 40)):
            self.assertIs(is_grid(grid), True)
        for value in NO_GRIDS:
            with self.subTest(value=value):
                self.assertIs(is_grid(value), False)

    def test_document(self):
        self.assertEqual((sign_at(GRID, 1, 1), sign_at(GRID, -1, 7), sign_at(GRID, 1, -9)), ("^", "#", "."))
        self.assertEqual((is_free(GRID, (0, 24, 8, 32)), is_free(GRID, (0, 25, 8, 33))), (True, False))
        self.assertEqual(wall_boxes(GRID), [(0, 32, 48, 48)])

    def test_sign_at(self):
        for grid in [LARGEST, *some_grids(20, 5)]:
            for column in (-1000, -2, -1, *range(grid[0] + 3), 1000):
                for row in (-1000, -2, -1, *range(grid[1] + 3), 1000):
                    self.assertEqual(sign_at(grid, column, row), sign_of(grid, column, row))

    def test_sign_at_corners(self):
        self.assertEqual([sign_at((1, 1, "~"), column, row) for row in (-1, 0, 1) for column in (-1, 0, 1)],
                         ["#", ".", "#", "#", "~", "#", "#", ".", "#"])

    def test_sign_at_errors(self):
        wrong = (("grid", NO_GRIDS), ("column", (1001, -1001, *NO_INTEGERS)), ("row", (1001, -1001, *NO_INTEGERS)))
        check_arguments(self, sign_at, (GRID, 1000, -1000), wrong)


class MeetTests(unittest.TestCase):
    def test_cells_met(self):
        cases = Cases(11)
        for grid in some_grids(60, 5):
            for _ in range(20):
                box = some_box(cases, grid)
                every = [(column, row) for row in range(grid[1]) for column in range(grid[0])]
                self.assertEqual(check_pure(self, cells_met, grid, box), [cell for cell in every if meets(box, *cell)])

    def test_edges_are_not_met(self):
        self.assertEqual(cells_met(GRID, (0, 0, 16, 16)), [(0, 0)])
        self.assertEqual(cells_met(GRID, (16, 16, 17, 17)), [(1, 1)])
        self.assertEqual(cells_met(GRID, (15, 15, 17, 17)), [(0, 0), (1, 0), (0, 1), (1, 1)])
        self.assertEqual(cells_met(GRID, (48, 0, 60, 16)), [])
        self.assertEqual(cells_met(GRID, (-16, -16, 0, 0)), [])
        self.assertEqual(len(cells_met(LARGEST, (0, 0, 640, 640))), 1600)

    def test_is_free(self):
        cases = Cases(12)
        for grid in some_grids(100, 5):
            for _ in range(30):
                box = some_box(cases, grid)
                self.assertIs(is_free(grid, box), free(grid, box))

    def test_outside(self):
        grid = (2, 1, "..")
        self.assertIs(is_free(grid, (0, -640, 32, 0)), True)
        self.assertIs(is_free(grid, (0, FAR - 640, 32, FAR)), True)
        for box in ((-1, 0, 5, 5), (0, 0, 33, 5), (-1, -90, 5, -50), (28, 90, 33, 99), (FAR - 1, 0, FAR, 1)):
            self.assertIs(is_free(grid, box), False)
        self.assertIs(is_free((2, 1, "##"), (0, 16, 32, 99)), True)

    def test_only_walls_matter(self):
        self.assertEqual([is_free((1, 1, sign), (0, 0, 16, 16)) for sign in ".^~#"], [True, True, True, False])

    def test_errors(self):
        for function in (cells_met, is_free):
            wrong = (("grid", NO_GRIDS), ("box", NO_SIZED_BOXES))
            for box in LONGEST_BOXES:
                check_arguments(self, function, (GRID, box), wrong)


class ChangeTests(unittest.TestCase):
    def test_with_sign(self):
        self.assertEqual(with_sign(GRID, 1, 1, "#"), (3, 3, "....#.###"))
        self.assertEqual(with_sign(GRID, 0, 0, "~"), (3, 3, "~...^.###"))
        self.assertEqual(with_sign(GRID, 2, 2, "."), (3, 3, "....^.##."))
        self.assertEqual(with_sign(GRID, 2, 0, "^"), (3, 3, "..^.^.###"))
        self.assertEqual(with_sign(GRID, 1, 1, "^"), GRID)
        self.assertEqual(with_sign((1, 2, ".."), 0, 1, "#"), (1, 2, ".#"))

    def test_with_sign_errors(self):
        wrong = (("grid", NO_GRIDS), ("column", (-1, 3, 1000, *NO_INTEGERS)), ("row", (-1, 2, 1000, *NO_INTEGERS)),
                 ("sign", ("", "x", "..", ".#", "#^~", None, 0, True, (".",), ["."], b"#")))
        check_arguments(self, with_sign, ((3, 2, "......"), 2, 1, "#"), wrong)

    def test_mirrored_grid(self):
        self.assertEqual(mirrored_grid((3, 2, "#.^~..")), (3, 2, "^.#..~"))
        for grid in some_grids(30, 6):
            mirror = mirrored_grid(grid)
            self.assertEqual(mirrored_grid(mirror), grid)
            for column in range(-2, grid[0] + 2):
                for row in range(grid[1]):
                    self.assertEqual(sign_of(mirror, grid[0] - 1 - column, row), sign_of(grid, column, row))

    def test_mirrored_grid_errors(self):
        check_arguments(self, mirrored_grid, (LARGEST,), (("grid", NO_GRIDS),))


class CoverTests(unittest.TestCase):
    def test_word_by_word(self):
        for grid in [LARGEST, *some_grids(200, 6), *some_grids(100, 7, "###.")]:
            self.assertEqual(check_pure(self, wall_boxes, grid), slow_wall_boxes(grid))

    def test_each_wall_lies_in_one_box(self):
        for grid in some_grids(60, 6, "##.^"):
            boxes = wall_boxes(grid)
            for column in range(grid[0]):
                for row in range(grid[1]):
                    many = sum(meets(box, column, row) for box in boxes)
                    self.assertEqual(many, int(sign_of(grid, column, row) == "#"))

    def test_walls_that_make_boxes_in_several_ways(self):
        self.assertEqual(wall_boxes((3, 3, ".#.###.#.")), [(16, 0, 32, 48), (0, 16, 16, 32), (32, 16, 48, 32)])
        self.assertEqual(wall_boxes((3, 2, "##.###")), [(0, 0, 32, 32), (32, 16, 48, 32)])
        self.assertEqual(wall_boxes((3, 2, "####.#")), [(0, 0, 48, 16), (0, 16, 16, 32), (32, 16, 48, 32)])
        self.assertEqual(wall_boxes((2, 3, "#.####")), [(0, 0, 16, 48), (16, 16, 32, 48)])

    def test_bounds(self):
        self.assertEqual(wall_boxes((40, 40, "#" * 1600)), [(0, 0, 640, 640)])
        self.assertEqual(wall_boxes((1, 1, "#")), [(0, 0, 16, 16)])
        self.assertEqual(wall_boxes((2, 2, ".^~.")), [])
        self.assertEqual(wall_boxes((2, 2, "#..#")), [(0, 0, 16, 16), (16, 16, 32, 32)])

    def test_rows_do_not_run_over(self):
        self.assertEqual(wall_boxes((3, 2, "..##..")), [(32, 0, 48, 16), (0, 16, 16, 32)])

    def test_errors(self):
        check_arguments(self, wall_boxes, (GRID,), (("grid", NO_GRIDS),))


if __name__ == "__main__":
    unittest.main()
