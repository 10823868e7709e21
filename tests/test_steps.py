"""[6], [12]: grids, their steps, what is made of them, killed, joined and shared."""

import random
import unittest
from fractions import Fraction

from producttables.errors import InvalidGrid, InvalidMany, InvalidRow, UnlikeWidths
from producttables.ratios import Ratio
from producttables.steps import is_grid, joined, killed, made_of, rank, shared, steps
from support import KINDS, Case, plain, plain_steps, plain_sum, ratios
import support

GRIDS = [
    [], [[0]], [[5]], [[0, 0, 0]], [[0, 0], [0, 0]], [[1, 2], [2, 4]], [[0, 2], [0, 3]], [[2, 0], [0, 3]],
    [[1, 2, 3], [4, 5, 6], [7, 8, 9]], [[7, 8, 9], [4, 5, 6], [1, 2, 3]], [[0, 0, 1], [0, 1, 0], [1, 0, 0]],
    [[0, 1, 2], [0, 2, 4], [0, 0, 0], [0, 3, 7]], [[Ratio(1, 2), Ratio(-1, 3)], [Ratio(3, 2), -1]],
    [[Ratio(1, 2), Ratio(1, 3), Ratio(1, 5)], [Ratio(1, 7), 0, Ratio(-2, 3)]],
    [[1, 1, 1, 1], [1, 1, 1, 1], [0, 1, 0, 1]], [[0, 0, 2, 4, 6, 0]], [[1], [2], [3]],
    [[3, 1, 4], [1, 5, 9], [4, 6, 13], [2, -4, -5]], [[1000000, 999999], [999999, 999998]],
]


def some_grids():
    told = random.Random(12)
    found = list(GRIDS)
    for many in range(40):
        rows, wide, top = told.randint(1, 6), told.randint(1, 6), told.choice([1, 2, 9])
        grid = [[told.randint(-top, top) for _ in range(wide)] for _ in range(rows)]
        if many % 3 == 0:
            grid = [[Ratio(number, told.randint(1, 4)) for number in row] for row in grid]
        found.append(grid)
    return found


def wide_of(grid):
    return len(grid[0]) if grid else 3


class Steps(Case):
    def test_steps(self):
        for grid in some_grids():
            told = self.call(steps, grid)
            self.assertEqual(plain(told), plain_steps(plain(grid)))
            self.assertEqual(told, ratios(told))
            self.assertEqual(steps(told), told)
            many = self.call(rank, grid)
            self.assertEqual(many, len(told))
            self.assertIs(type(many), int)

    def test_form(self):
        for grid in some_grids():
            heads = []
            for row in plain(steps(grid)):
                heads.append(next(place for place, number in enumerate(row) if number))
                self.assertEqual(row[heads[-1]], 1)
            self.assertEqual(heads, sorted(set(heads)))
            for place in heads:
                self.assertEqual(sum(map(abs, [row[place] for row in plain(steps(grid))])), 1)

    def test_sequence_and_multiples_do_not_matter(self):
        for grid in some_grids():
            other = [[number * (place + 2) for number in row] for place, row in enumerate(grid)][::-1]
            self.assertEqual(steps(other + grid), steps(grid))

    def test_edges(self):
        self.assertEqual(steps([]), [])
        self.assertEqual(rank([]), 0)
        square = [[1 if i == j else 0 for j in range(64)] for i in range(64)]
        self.assertEqual(steps(square[::-1]), ratios(square))
        self.assertEqual(rank([[number + 1 for number in row] for row in square]), 64)
        self.assertEqual(rank([[3] * 64] * 64), 1)


class IsGrid(Case):
    def test_any_value(self):
        self.tells(is_grid, support.is_grid)

    def test_bounds(self):
        self.assertIs(is_grid([[1] * 64] * 64), True)
        self.assertIs(is_grid([[1] * 65]), False)
        self.assertIs(is_grid([[1]] * 65), False)
        self.assertIs(is_grid([[]]), False)
        self.assertIs(is_grid(value=[]), True)
        self.assertIs(is_grid(()), True)
        self.assertIs(is_grid(([1, 2], (Ratio(3), 4))), True)
        self.assertIs(is_grid([[1, 2], [3, True]]), False)
        self.assertIs(is_grid([[1, 2], [3]]), False)


class MadeOf(Case):
    def test_made(self):
        told = random.Random(7)
        for grid in some_grids():
            amounts = [Fraction(told.randint(-3, 3), told.randint(1, 3)) for _ in grid]
            row = ratios(plain_sum(amounts, plain(grid), wide_of(grid)))
            found = self.call(made_of, grid, row)
            self.assertIs(type(found), list)
            self.assertEqual([type(number) for number in found], [Ratio] * len(grid))
            self.assertEqual(plain_sum(plain(found), plain(grid), wide_of(grid)), plain(row))

    def test_not_made(self):
        for grid in some_grids():
            for place in range(wide_of(grid)):
                row = [0] * place + [1] + [0] * (wide_of(grid) - place - 1)
                more = plain_steps(plain(grid + [row]))
                found = self.call(made_of, grid, row)
                self.assertEqual(found is None, len(more) > rank(grid))

    def test_no_rows(self):
        self.assertEqual(made_of([], [0]), [])
        self.assertEqual(made_of([], [0] * 64), [])
        self.assertIsNone(made_of([], [0, Ratio(1, 2)]))
        self.assertEqual(made_of([[0, 0]], [0, 0]), [Ratio(0)])

    def test_wrong(self):
        for value in KINDS:
            if not support.is_grid(value):
                self.fails(InvalidGrid, made_of, value, None, value=value)
            if not support.is_numbers(value, 2, 2):
                self.fails(InvalidRow, made_of, [[1, 2]], value, value=value)
            if not support.is_numbers(value, 1, 64):
                self.fails(InvalidRow, made_of, [], value, value=value)
        self.fails(InvalidRow, made_of, [], [0] * 65, value=[0] * 65)
        self.fails(InvalidRow, made_of, [[1]], [True], value=[True])


class Killed(Case):
    def test_killed(self):
        for grid in some_grids():
            wide = wide_of(grid)
            told = self.call(killed, grid, wide)
            self.assertEqual(len(told), wide - rank(grid))
            self.assertEqual(steps(told), told)
            for row in plain(grid):
                for other in plain(told):
                    self.assertEqual(sum(a * b for a, b in zip(row, other)), 0)

    def test_twice(self):
        for grid in some_grids():
            self.assertEqual(killed(killed(grid, wide_of(grid)), wide_of(grid)), steps(grid))

    def test_edges(self):
        self.assertEqual(killed([], 1), [[Ratio(1)]])
        self.assertEqual(len(killed([], 64)), 64)
        self.assertEqual(killed([[7]], 1), [])
        self.assertEqual(killed(grid=[[1, 2]], wide=2), [[Ratio(1), Ratio(-1, 2)]])

    def test_wrong(self):
        for value in KINDS:
            if not support.is_grid(value):
                self.fails(InvalidGrid, killed, value, 0, value=value)
            if not (support.is_integer(value) and 1 <= value <= 64):
                self.fails(InvalidMany, killed, [], value, value=value)
                self.fails(InvalidMany, killed, [[1, 2]], value, value=value)
        for grid, wide in [([[1, 2]], 1), ([[1, 2]], 3), ([[0]], 64)]:
            self.fails(UnlikeWidths, killed, grid, wide)
        self.fails(InvalidMany, killed, [[1, 2]], 65, value=65)


class Two(Case):
    def test_joined_and_shared(self):
        grids = some_grids()
        for grid in grids:
            for other in grids[::4]:
                if grid and other and len(grid[0]) != len(other[0]):
                    continue
                both, common = self.call(joined, grid, other), self.call(shared, grid, other)
                self.assertEqual(both, steps(list(grid) + list(other)))
                self.assertEqual(common, steps(common))
                # as many as sizes tell, and all of them made of each
                self.assertEqual(len(common), rank(grid) + rank(other) - len(both))
                for row in common:
                    self.assertIsNotNone(made_of(grid, row))
                    self.assertIsNotNone(made_of(other, row))
                self.assertEqual(joined(other, grid), both)
                self.assertEqual(shared(other, grid), common)

    def test_no_rows(self):
        self.assertEqual(joined([], []), [])
        self.assertEqual(shared([], []), [])
        self.assertEqual(joined([], [[2, 4]]), [[Ratio(1), Ratio(2)]])
        self.assertEqual(joined([[2, 4]], []), [[Ratio(1), Ratio(2)]])
        self.assertEqual(shared([], [[2, 4]]), [])
        self.assertEqual(shared([[2, 4]], []), [])
        self.assertEqual(shared([[0, 0]], [[2, 4]]), [])

    def test_shared_without_a_common_row(self):
        self.assertEqual(shared([[1, 0, 0], [0, 1, 0]], [[0, 1, 1], [1, 0, 1]]), [[Ratio(1), Ratio(-1), Ratio(0)]])
        self.assertEqual(len(joined([[1] * 64] * 64, [[0] * 63 + [1]] * 64)), 2)

    def test_wrong(self):
        for function in (joined, shared):
            for value in KINDS:
                if not support.is_grid(value):
                    self.fails(InvalidGrid, function, value, 3, value=value)
                    self.fails(InvalidGrid, function, [], value, value=value)
                    self.fails(InvalidGrid, function, [[1, 2, 3]], value, value=value)
            self.fails(UnlikeWidths, function, [[1, 2]], [[1]])
            self.fails(UnlikeWidths, function, [[0]], [[0, 0]])

    def test_wrong_alone(self):
        for function in (steps, rank):
            for value in KINDS:
                if not support.is_grid(value):
                    self.fails(InvalidGrid, function, value, value=value)


if __name__ == "__main__":
    unittest.main()
