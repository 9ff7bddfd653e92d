"""Points 114 to 122: paths, regions and fields."""

import itertools
import unittest

from alikeplay.errors import BadValue
from alikeplay.grids import with_sign
from alikeplay.paths import cost_of, field_of, is_field, path_of, reached, regions, steepest
from helpers import NO_INTEGERS, NO_TUPLES, Cases, check_arguments, check_pure
from test_grids import NO_GRIDS, some_grid

GRID = (3, 3, ".#..~....")
COSTS = {".": 1, "^": 1, "~": 3}
WAYS = ((1, 0), (0, 1), (-1, 0), (0, -1))
NO_CELLS = (*NO_TUPLES, (), (0,), (0, 0, 0), [0, 0], (3, 0), (0, 3), (-1, 0), (0, -1), ((0, 0), (1, 1)),
            *[(value, 0) for value in NO_INTEGERS], *[(0, value) for value in NO_INTEGERS])
NO_GOALS = (*NO_TUPLES, (), (0, 0), [(0, 0)], ((0, 0),) * 17, *[(cell,) for cell in NO_CELLS], *[((0, 0), cell) for cell in NO_CELLS])


def all_cells(grid):
    return [(column, row) for row in range(grid[1]) for column in range(grid[0])]


def cost(grid, cell):
    """Return the cost of a cell, or None if it is closed or not there."""
    column, row = cell
    if not 0 <= column < grid[0] or not 0 <= row < grid[1]:
        return None
    return COSTS.get(grid[2][row * grid[0] + column])


def next_cells(grid, cell):
    """Return the open cells that ways lead to, in the order of the ways."""
    near = [(cell[0] + x, cell[1] + y) for x, y in WAYS]
    return [other for other in near if cost(grid, other) is not None]


def slow_field(grid, goals):
    """Make distances less as long as there is a way that is shorter."""
    far = 10 ** 6
    found = {cell: 0 if cell in goals else far for cell in all_cells(grid) if cost(grid, cell) is not None}
    is_changed = True
    while is_changed:
        is_changed = False
        for cell in found:
            least = min([found[cell]] + [cost(grid, other) + found[other] for other in next_cells(grid, cell)])
            is_changed = is_changed or least < found[cell]
            found[cell] = least
    return tuple(None if found.get(cell, far) == far else found[cell] for cell in all_cells(grid))


def slow_costs(grid, start):
    """Return the least costs of paths from a cell, step by step from it."""
    found = {} if cost(grid, start) is None else {start: 0}
    ahead = list(found)
    while ahead:
        cell = ahead.pop(0)
        for other in next_cells(grid, cell):
            if found.get(other, 10 ** 6) > found[cell] + cost(grid, other):
                found[other] = found[cell] + cost(grid, other)
                ahead.append(other)
    return found


def first_path(grid, cell, goals, left):
    """Look for a path to a goal that costs what is left, by trying all ways in their order; return it or None."""
    if left == 0:
        return (cell,) if cell in goals else None
    for other in next_cells(grid, cell):
        if cost(grid, other) <= left:
            path = first_path(grid, other, goals, left - cost(grid, other))
            if path is not None:
                return (cell, *path)
    return None


def some_goals(cases, grid, most=4):
    return tuple(cases.one(all_cells(grid)) for _ in range(cases.whole(1, most)))


class CostTests(unittest.TestCase):
    def test_costs(self):
        grid = (4, 2, ".^~#" "....")
        self.assertEqual(cost_of(grid, ((0, 0),)), 0)
        self.assertEqual(cost_of(grid, ((2, 0),)), 0)
        self.assertEqual(cost_of(grid, ((0, 0), (1, 0), (2, 0))), 4)
        self.assertEqual(cost_of(grid, ((2, 0), (1, 0), (0, 0))), 2)
        self.assertEqual(cost_of(grid, ((0, 0), (0, 1), (0, 0), (0, 1), (1, 1), (1, 0))), 5)
        self.assertEqual(cost_of(grid, ((1, 0), (2, 0), (1, 0), (2, 0))), 7)

    def test_no_paths(self):
        grid = (4, 2, ".^~#" "....")
        for cells in (*NO_TUPLES, (), (0, 0), [(0, 0)], ((0, 0), (0, 0)), ((0, 0), (1, 1)), ((0, 0), (2, 0)), ((3, 0),), ((2, 0), (3, 0)),
                      ((3, 1), (3, 0)), ((0, 0), (3, 0)), ((3, 1), (0, 1)), ((3, 1), (4, 1)), ((0, 0), (-1, 0)), ((0, 0), (0, -1)), ((0, 1), (0, 2)),
                      *[(cell,) for cell in NO_CELLS if cell not in ((3, 0), (0, 3))], *[((0, 0), cell) for cell in NO_CELLS]):
            self.assertIsNone(cost_of(grid, cells), cells)

    def test_long_paths(self):
        grid = (40, 1, "." * 40)
        row = tuple((column, 0) for column in range(40))
        self.assertEqual(cost_of(grid, row), 39)
        self.assertEqual(cost_of(grid, (row + row[-2:0:-1]) * 20), 40 * 20 * 2 - 41)

    def test_drawn_walks(self):
        cases = Cases(151)
        for _ in range(300):
            grid = some_grid(cases, 4, "..^~#")
            path = [cases.one(all_cells(grid))]
            for _ in range(cases.whole(0, 6)):
                way = cases.one(WAYS)
                path.append((path[-1][0] + way[0], path[-1][1] + way[1]))
            costs = [cost(grid, cell) for cell in path]
            self.assertEqual(check_pure(self, cost_of, grid, tuple(path)), None if None in costs else sum(costs[1:]))

    def test_arguments(self):
        for cells in (None, (), ((0, 0),), ((9, 9),)):
            check_arguments(self, lambda grid: cost_of(grid, cells), (GRID,), (("grid", NO_GRIDS),))


class PathTests(unittest.TestCase):
    def test_document(self):
        self.assertEqual(path_of(GRID, (0, 0), (2, 0)), (6, ((0, 0), (0, 1), (1, 1), (2, 1), (2, 0))))
        self.assertIsNone(path_of(GRID, (0, 0), (1, 0)))
        self.assertEqual(reached(GRID, (0, 0), 2), [((0, 0), 0), ((0, 1), 1), ((0, 2), 2)])
        self.assertEqual(field_of(GRID, ((2, 0),)), (6, None, 0, 5, 2, 1, 4, 3, 2))
        self.assertEqual(steepest(GRID, field_of(GRID, ((2, 0),)), (0, 2)), ((0, 2), (1, 2), (2, 2), (2, 1), (2, 0)))
        self.assertEqual((len(regions(GRID)), regions((3, 1, ".#."))), (1, [((0, 0),), ((2, 0),)]))

    def test_ends(self):
        for sign in ".^~":
            self.assertEqual(path_of((1, 1, sign), (0, 0), (0, 0)), (0, ((0, 0),)))
        self.assertIsNone(path_of((1, 1, "#"), (0, 0), (0, 0)))
        self.assertIsNone(path_of(GRID, (1, 0), (0, 0)))
        self.assertIsNone(path_of(GRID, (1, 0), (1, 0)))
        self.assertIsNone(path_of((3, 2, ".#." ".#."), (0, 0), (2, 1)))
        self.assertIsNone(path_of((2, 2, ".##."), (0, 0), (1, 1)))
        # The cost of the start does not count, that of the goal does.
        self.assertEqual(path_of((2, 1, "~."), (0, 0), (1, 0)), (1, ((0, 0), (1, 0))))
        self.assertEqual(path_of((2, 1, "~."), (1, 0), (0, 0)), (3, ((1, 0), (0, 0))))

    def test_the_first_by_its_ways(self):
        """Right comes before down, down before left, and left before up."""
        grid = (3, 3, "." * 9)
        self.assertEqual(path_of(grid, (0, 0), (2, 2)), (4, ((0, 0), (1, 0), (2, 0), (2, 1), (2, 2))))
        self.assertEqual(path_of(grid, (2, 0), (0, 2)), (4, ((2, 0), (2, 1), (2, 2), (1, 2), (0, 2))))
        self.assertEqual(path_of(grid, (2, 2), (0, 0)), (4, ((2, 2), (1, 2), (0, 2), (0, 1), (0, 0))))
        self.assertEqual(path_of(grid, (0, 2), (2, 0)), (4, ((0, 2), (1, 2), (2, 2), (2, 1), (2, 0))))
        # Around a wall or over a slow cell for the same cost: right is first, though it goes over the slow cell.
        self.assertEqual(path_of((3, 2, ".~." "..."), (0, 0), (2, 0)), (4, ((0, 0), (1, 0), (2, 0))))
        self.assertEqual(path_of((3, 3, "~~." "..." "^^^"), (0, 1), (2, 1)), (2, ((0, 1), (1, 1), (2, 1))))
        self.assertEqual(path_of((3, 3, "..." ".#." "..."), (0, 1), (2, 1)), (4, ((0, 1), (0, 2), (1, 2), (2, 2), (2, 1))))

    def test_shelves_cost_as_open_cells(self):
        self.assertEqual(path_of((3, 2, ".^.." "~."), (0, 0), (2, 0)), (2, ((0, 0), (1, 0), (2, 0))))

    def test_large_grids(self):
        snake = "".join("." * 40 if row % 2 == 0 else ("#" * 39 + ".", "." + "#" * 39)[row // 2 % 2] for row in range(39)) + "#" * 40
        least, path = path_of((40, 40, snake), (0, 0), (0, 38))
        self.assertEqual((least, len(path)), (20 * 39 + 38, 20 * 39 + 39))
        self.assertEqual(cost_of((40, 40, snake), path), least)
        self.assertEqual(path_of((40, 40, "~" * 1600), (39, 39), (0, 0))[0], 78 * 3)
        for columns, rows in ((40, 1), (1, 40)):
            least, path = path_of((columns, rows, "^" * 40), (0, 0), (columns - 1, rows - 1))
            self.assertEqual((least, path), (39, tuple(all_cells((columns, rows)))))

    def test_drawn_grids(self):
        cases = Cases(152)
        found = {}
        for _ in range(400):
            grid = some_grid(cases, 4, cases.one(("...#", "..^~#", ".~")))
            start, goal = cases.one(all_cells(grid)), cases.one(all_cells(grid))
            least = slow_costs(grid, start).get(goal)
            expected = None if least is None else (least, first_path(grid, start, (goal,), least))
            self.assertEqual(check_pure(self, path_of, grid, start, goal), expected)
            found[least] = True
            if expected is not None:
                self.assertEqual(cost_of(grid, expected[1]), least)
                # Point 120: the same cells the other way round.
                back = cost_of(grid, expected[1][::-1])
                self.assertEqual(least + cost(grid, start), back + cost(grid, goal))
                self.assertEqual(path_of(grid, goal, start)[0], back)
        self.assertGreater(len(found), 8)

    def test_arguments(self):
        check_arguments(self, path_of, (GRID, (1, 0), (2, 2)), (("grid", NO_GRIDS), ("start", NO_CELLS), ("goal", NO_CELLS)))


class ReachTests(unittest.TestCase):
    def test_budgets(self):
        self.assertEqual(reached(GRID, (0, 0), 0), [((0, 0), 0)])
        self.assertEqual(reached(GRID, (1, 1), 1), [((0, 1), 1), ((1, 1), 0), ((2, 1), 1), ((1, 2), 1)])
        self.assertEqual(reached((2, 1, ".~"), (0, 0), 2), [((0, 0), 0)])
        self.assertEqual(reached((2, 1, ".~"), (0, 0), 3), [((0, 0), 0), ((1, 0), 3)])
        self.assertEqual(reached((2, 1, ".~"), (1, 0), 1), [((0, 0), 1), ((1, 0), 0)])
        self.assertEqual(reached((3, 1, ".#."), (0, 0), 10000), [((0, 0), 0)])
        self.assertEqual(reached(GRID, (1, 0), 10000), [])
        self.assertEqual(len(reached((40, 40, "~" * 1600), (0, 0), 10000)), 1600)
        self.assertEqual(reached((40, 40, "~" * 1600), (0, 0), 10000)[-1], ((39, 39), 78 * 3))
        self.assertEqual(len(reached((40, 1, "^" * 40), (0, 0), 20)), 21)

    def test_drawn_grids(self):
        cases = Cases(153)
        for _ in range(300):
            grid = some_grid(cases, 6, "..^~#")
            start, budget = cases.one(all_cells(grid)), cases.one((0, 1, 2, 3, 5, 8, 10000))
            costs = slow_costs(grid, start)
            expected = [(cell, costs[cell]) for cell in all_cells(grid) if costs.get(cell, 10 ** 6) <= budget]
            self.assertEqual(check_pure(self, reached, grid, start, budget), expected)

    def test_arguments(self):
        budgets = (-1, 10001, *NO_INTEGERS)
        check_arguments(self, reached, (GRID, (1, 0), 0), (("grid", NO_GRIDS), ("start", NO_CELLS), ("budget", budgets)))


class RegionTests(unittest.TestCase):
    def test_regions(self):
        self.assertEqual(regions((1, 1, "#")), [])
        self.assertEqual(regions((3, 2, "######")), [])
        for sign in ".^~":
            self.assertEqual(regions((1, 1, sign)), [((0, 0),)])
        self.assertEqual(regions((3, 2, ".^~" "~.^")), [tuple(all_cells((3, 2)))])
        self.assertEqual(regions((2, 2, ".##~")), [((0, 0),), ((1, 1),)])
        self.assertEqual(regions((3, 3, "#.#" ".#^" "#~#")), [((1, 0),), ((0, 1),), ((2, 1),), ((1, 2),)])
        self.assertEqual(regions((4, 3, "..#." "#.#." ".#.^")),
                         [((0, 0), (1, 0), (1, 1)), ((3, 0), (3, 1), (2, 2), (3, 2)), ((0, 2),)])
        self.assertEqual(len(regions((40, 40, (".#" * 20 + "#." * 20) * 20))), 800)
        self.assertEqual(regions((40, 40, "." * 1600)), [tuple(all_cells((40, 40)))])

    def test_drawn_grids(self):
        """Two cells are in one region if there is a path between them."""
        cases = Cases(154)
        for _ in range(200):
            grid = some_grid(cases, 5, ".^~###")
            expected = []
            for cell in all_cells(grid):
                near = tuple(sorted(slow_costs(grid, cell), key=lambda at: (at[1], at[0])))
                if near and near not in expected:
                    expected.append(near)
            self.assertEqual(check_pure(self, regions, grid), expected)

    def test_arguments(self):
        check_arguments(self, regions, (GRID,), (("grid", NO_GRIDS),))


class FieldTests(unittest.TestCase):
    def test_goals(self):
        grid = (4, 2, ".#.~" "#...")
        self.assertEqual(field_of(grid, ((2, 0),)), (None, None, 0, 1, None, 2, 1, 2))
        self.assertEqual(field_of(grid, ((1, 0),)), (None,) * 8)
        self.assertEqual(field_of(grid, ((1, 0), (0, 1))), (None,) * 8)
        self.assertEqual(field_of(grid, ((0, 0), (0, 0))), (0,) + (None,) * 7)
        self.assertEqual(field_of(grid, ((3, 0), (1, 0), (0, 0), (3, 0))), (0, None, 3, 0, None, 5, 4, 3))
        self.assertEqual(field_of(grid, ((3, 0),)), (None, None, 3, 0, None, 5, 4, 3))
        self.assertEqual(field_of((1, 1, "~"), ((0, 0),)), (0,))
        self.assertEqual(field_of((1, 1, "#"), ((0, 0),)), (None,))
        row = tuple((column, 0) for column in range(16))
        self.assertEqual(field_of((20, 1, "." * 20), row), (0,) * 16 + (1, 2, 3, 4))
        self.assertEqual(field_of((20, 1, "." * 20), row[::-1]), (0,) * 16 + (1, 2, 3, 4))

    def test_drawn_fields(self):
        cases = Cases(155)
        for _ in range(300):
            grid = some_grid(cases, 6, cases.one(("...#", "..^~#", ".~#")))
            goals = some_goals(cases, grid)
            field = check_pure(self, field_of, grid, goals)
            self.assertEqual(field, slow_field(grid, goals))
            self.assertIs(check_pure(self, is_field, grid, goals, field), True)

    def test_changed_fields(self):
        """Whatever tuple passes is the field."""
        cases = Cases(156)
        for _ in range(120):
            grid = some_grid(cases, 4, cases.one(("...#", "..^~#")))
            goals = some_goals(cases, grid, 2)
            field = field_of(grid, goals)
            for index, item in enumerate(field):
                for other in (None, 0, 1, -1, 2, 10 ** 6, *([item + 1, item - 1, item + 2] if item is not None else [])):
                    changed = (*field[:index], other, *field[index + 1:])
                    self.assertIs(is_field(grid, goals, changed), changed == field)
            other = some_goals(cases, grid, 2)
            self.assertIs(is_field(grid, other, field), field_of(grid, other) == field)
            moved = tuple(item if item is None else item + 1 for item in field)
            self.assertIs(is_field(grid, goals, moved), moved == field)
            self.assertIs(is_field(grid, goals, (None,) * len(field)), set(field) == {None})

    def test_all_small_tuples(self):
        """Of all tuples of a small grid, one alone passes for each goals."""
        for cells in (".~.", "..^", ".#.", "##.", "~~~"):
            for goals in (((0, 0),), ((1, 0),), ((0, 0), (2, 0)), ((2, 0), (2, 0))):
                passed = [field for field in itertools.product((None, -3, -1, 0, 1, 2, 3, 4, 5, 6), repeat=3) if is_field((3, 1, cells), goals, field)]
                self.assertEqual(passed, [field_of((3, 1, cells), goals)])

    def test_what_is_no_field(self):
        field = field_of(GRID, ((2, 0),))
        for value in (*NO_TUPLES, (), field[:-1], field + (None,), field + (1,), list(field), (field,)):
            self.assertIs(is_field(GRID, ((2, 0),), value), False)
        for value in NO_INTEGERS:
            for index in range(9):
                changed = (*field[:index], value, *field[index + 1:])
                self.assertIs(is_field(GRID, ((2, 0),), changed), value is None and index == 1)
        self.assertIs(is_field((2, 1, ".."), ((0, 0),), (False, 1)), False)
        self.assertIs(is_field((2, 1, ".."), ((0, 0),), (0, True)), False)

    def test_arguments(self):
        wrong = (("grid", NO_GRIDS), ("goals", NO_GOALS))
        check_arguments(self, field_of, (GRID, ((1, 0),) * 16), wrong)
        for value in (None, 5, field_of(GRID, ((2, 0),))):
            check_arguments(self, lambda grid, goals: is_field(grid, goals, value), (GRID, ((1, 0),) * 16), wrong)


class SteepestTests(unittest.TestCase):
    def test_ends(self):
        field = field_of(GRID, ((2, 0), (0, 2)))
        self.assertEqual(steepest(GRID, field, (2, 0)), ((2, 0),))
        self.assertEqual(steepest(GRID, field, (0, 2)), ((0, 2),))
        self.assertIsNone(steepest(GRID, field, (1, 0)))
        grid = (3, 1, ".#.")
        self.assertIsNone(steepest(grid, field_of(grid, ((0, 0),)), (2, 0)))
        # A goal that lies on the way ends it.
        grid = (5, 1, ".....")
        self.assertEqual(steepest(grid, field_of(grid, ((4, 0), (2, 0))), (0, 0)), ((0, 0), (1, 0), (2, 0)))
        self.assertEqual(steepest(grid, field_of(grid, ((4, 0), (0, 0))), (2, 0)), ((2, 0), (3, 0), (4, 0)))

    def test_drawn_fields(self):
        cases = Cases(157)
        for _ in range(200):
            grid = some_grid(cases, 4, cases.one(("...#", "..^~#", ".~")))
            goals = tuple(goal for goal in some_goals(cases, grid) if cost(grid, goal) is not None)
            if goals:
                field = field_of(grid, goals)
                for cell, distance in zip(all_cells(grid), field):
                    expected = None if distance is None else first_path(grid, cell, goals, distance)
                    self.assertEqual(check_pure(self, steepest, grid, field, cell), expected)
                    if expected is not None:
                        self.assertEqual(cost_of(grid, expected), distance)

    def test_number_of_goals(self):
        grid = (20, 1, "." * 20)
        sixteen = (0,) * 16 + (1, 2, 3, 4)
        self.assertEqual(steepest(grid, sixteen, (17, 0)), ((17, 0), (16, 0), (15, 0)))
        self.check_wrong_field(grid, (0,) * 17 + (1, 2, 3))
        self.check_wrong_field(grid, (0,) * 20)
        self.check_wrong_field(grid, (None,) * 20)
        self.check_wrong_field((2, 1, "##"), (None, None))

    def check_wrong_field(self, grid, field):
        for start in ((0, 0), (grid[0], 0), None):
            with self.assertRaises(BadValue) as caught:
                steepest(grid, field, start)
            self.assertEqual(caught.exception.name, "field")

    def test_changed_fields(self):
        field = field_of(GRID, ((2, 0),))
        for index, item in enumerate(field):
            for other in (None, 0, 1, -1, 7, True, False, "1"):
                changed = (*field[:index], other, *field[index + 1:])
                goals = tuple(cell for cell, some in zip(all_cells(GRID), changed) if some == 0)
                if other is True or other is False or other == "1" or not goals or field_of(GRID, goals) != changed:
                    self.check_wrong_field(GRID, changed)
                else:
                    self.assertEqual(steepest(GRID, changed, (2, 0)), ((2, 0),))

    def test_arguments(self):
        field = field_of(GRID, ((2, 0),))
        other = field_of(with_sign(GRID, 0, 0, "~"), ((0, 0),))
        fields = (*NO_TUPLES, (), field[:-1], field + (None,), list(field), (None,) * 9, other)
        check_arguments(self, steepest, (GRID, field, (1, 0)), (("grid", NO_GRIDS), ("field", fields), ("start", NO_CELLS)))


if __name__ == "__main__":
    unittest.main()
