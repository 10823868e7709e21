"""[91]: the written forms of tables, rows, grids and numbers."""

import unittest
from fractions import Fraction

from producttables.errors import InvalidThing
from producttables.forms import read
from producttables.ratios import Ratio
from producttables.rooms import Room
from producttables.tables import Table, bad_places, power
from producttables.texts import written
from samples import SAMPLES
from support import KINDS, Case, numbers_of, plain, ratios
import support


def number_word(number):
    number = Fraction(number)
    return str(number.numerator) if number.denominator == 1 else f"{number.numerator}/{number.denominator}"


def line(*words):
    return " ".join(words) + "\n"


def rows_text(rows):
    told = plain(rows)
    text = line("table") + line("size", str(len(told)))
    for i, row in enumerate(told):
        for j, mixture in enumerate(row):
            if any(mixture):
                text += line("times", str(i), str(j), *map(number_word, mixture))
    return text


def grid_text(grid):
    return line("grid") + "".join(line("row", *map(number_word, row)) for row in plain(grid))


def numbers_text(numbers):
    return line("numbers", *map(number_word, plain(numbers)))


def any_rows(seed):
    """Rows of a table, good or not."""
    size = 1 + seed % 8
    rows = [[numbers_of(1000 * seed + 10 * i + j, size, 3, 2) for j in range(size)] for i in range(size)]
    for i in range(size):
        for j in range(size):
            if (i + j + seed) % 3 == 0:
                rows[i][j] = [0] * size
    return rows


def any_grid(seed):
    wide = 1 + seed % 7
    return [numbers_of(100 * seed + at, wide, 9, 9) for at in range(seed % 5)]


GOOD_ROWS = [table.rows() for table in SAMPLES.values()]
ROWS = GOOD_ROWS + [any_rows(seed) for seed in range(12)]
GRIDS = [[], [[0]], [[0, 0], [0, 0]], [[1, -2, Ratio(3, 4)]], [[Ratio(-999999, 999983)] * 3] * 2, [[0] * 64] * 2, [[5]] * 64,
         ] + [any_grid(seed) for seed in range(12)]
NUMBERS = [[0], [1], [-1], [0, 5], [Ratio(1, 2)], [Ratio(-7, 3), 10 ** 6], [0] * 64, [Ratio(-1, 2), 0, 3, Ratio(6, 3)]]
NUMBERS += [numbers_of(seed, 1 + seed, 99, 9) for seed in range(12)]


def is_rows(value):
    if type(value) not in (list, tuple) or not 1 <= len(value) <= 8:
        return False
    size = len(value)
    return all(type(row) in (list, tuple) and len(row) == size and all(support.is_numbers(one, size, size) for one in row)
               for row in value)


class Written(Case):
    def test_tables_and_rows(self):
        for table in SAMPLES.values():
            self.assertEqual(self.call(written, table), rows_text(table.rows()))
        bad = 0
        for rows in ROWS:
            self.assertEqual(self.call(written, rows), rows_text(rows))
            bad += bad_places(rows) is not None
        self.assertGreater(bad, 5)

    def test_grids(self):
        for grid in GRIDS:
            self.assertEqual(self.call(written, grid), grid_text(grid))
        self.assertEqual(written(()), "grid\n")
        self.assertEqual(written([]), "grid\n")

    def test_numbers(self):
        for numbers in NUMBERS:
            self.assertEqual(self.call(written, numbers), numbers_text(numbers))

    def test_told(self):
        for thing, text in [
                (Table([[[1, 0], [0, 1]], [[0, 1], [0, 0]]]), "table\nsize 2\ntimes 0 0 1 0\ntimes 0 1 0 1\ntimes 1 0 0 1\n"),
                ([[[0]]], "table\nsize 1\n"), ([[[Ratio(-1, 2)]]], "table\nsize 1\ntimes 0 0 -1/2\n"),
                ([[1, 2], [0, 3]], "grid\nrow 1 2\nrow 0 3\n"), ([[0]], "grid\nrow 0\n"), ([0, 5], "numbers 0 5\n"),
                ([Ratio(4, 2), Ratio(0, 7)], "numbers 2 0\n"), ((-10, Ratio(-3, 12)), "numbers -10 -1/4\n"),
                ([[[0, 1], [0, 0]], [[Ratio(1, 3), 0], [0, -2]]],
                 "table\nsize 2\ntimes 0 0 0 1\ntimes 1 0 1/3 0\ntimes 1 1 0 -2\n")]:
            self.assertEqual(written(thing), text)

    def test_great_numbers(self):
        table = SAMPLES["root"]
        made = power(table, [Ratio(999999, 999983), Ratio(999979, 999961)], 30)
        self.assertEqual(written(made), numbers_text(made))
        self.assertEqual(read(written(made)), made)
        self.assertEqual(read(written([made, made])), [made, made])

    def test_any_value(self):
        seen = set()
        more = [[[]], [[], []], [[1], [1, 2]], [[[1]], [[1]]], [[[1, 0], [0, 1]], [[0, 1], [0]]], [[[True]]], [[True]],
                [True], [0, None], [[0], None], [[[0]], None], [[0] * 65], [[0]] * 65, [0] * 65, [[[0] * 9] * 9] * 9,
                [[[[0]]]], "grid\n", Room(SAMPLES["single"], [[[1]]]), {0: 1}, [[[0], [0]]], [[[0]], [0]]]
        for value in KINDS + more:
            fine = (isinstance(value, Table) or is_rows(value) or support.is_grid(value)
                    or support.is_numbers(value, 1, 64))
            seen.add(fine)
            if fine:
                self.assertIs(type(written(value)), str)
            else:
                self.fails(InvalidThing, written, value, value=value)
        self.assertEqual(seen, {True, False})

    def test_by_worth(self):
        self.assertEqual(written([Ratio(2), 3]), written([2, Ratio(6, 2)]))
        self.assertEqual(written([[Ratio(2), 3]]), written(([2, Ratio(3)],)))
        self.assertEqual(written(ratios(ROWS[-1])), written(ROWS[-1]))


class ReadAgain(Case):
    def test_read(self):
        for rows in ROWS:
            self.assertEqual(self.call(read, written(rows)), ratios([list(row) for row in rows]))
        for table in SAMPLES.values():
            self.assertEqual(Table(read(written(table))), table)
        for grid in GRIDS:
            self.assertEqual(self.call(read, written(grid)), ratios(grid))
        for numbers in NUMBERS:
            told = self.call(read, written(numbers))
            self.assertEqual(told, ratios(numbers))
            self.assertEqual({type(number) for number in told}, {Ratio})


if __name__ == "__main__":
    unittest.main()
