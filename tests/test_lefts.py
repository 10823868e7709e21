"""[7], [21], [22]: left and right tables, traces, full lines."""

import itertools
import unittest
from fractions import Fraction

from producttables.lefts import full_line, left_table, right_table, trace
from producttables.lowest import line_at
from producttables.makers import noughts, with_one
from producttables.ratios import Ratio
from producttables.tables import one, power, times
from samples import SAMPLES, mixtures_of
from support import Case, numbers_of, plain, plain_determinant, plain_times, ratios


def all_mixtures(many=2):
    for seed, (name, table) in enumerate(SAMPLES.items()):
        for mixture in mixtures_of(table, seed, many):
            yield name, table, mixture


class Tables(Case):
    def test_left_and_right(self):
        for name, table, mixture in all_mixtures():
            left, right = self.call(left_table, table, mixture), self.call(right_table, table, mixture)
            things = plain([table.thing(place) for place in range(table.size)])
            self.assertEqual(left, ratios([plain_times(table, plain(mixture), thing) for thing in things]))
            self.assertEqual(right, ratios([plain_times(table, thing, plain(mixture)) for thing in things]))

    def test_both_differ(self):
        self.assertEqual(left_table(SAMPLES["corner"], [1, 0]), ratios([[1, 0], [0, 1]]))
        self.assertEqual(right_table(SAMPLES["corner"], [1, 0]), ratios([[1, 0], [0, 0]]))

    def test_trace(self):
        for name, table, mixture in all_mixtures():
            left = plain(left_table(table, mixture))
            told = self.call(trace, table, mixture)
            self.assertIs(type(told), Ratio)
            self.assertEqual(plain(told), sum(left[place][place] for place in range(table.size)))

    def test_trace_of_products(self):
        for seed, table in enumerate(SAMPLES.values()):
            first, second = numbers_of(seed, table.size), numbers_of(seed + 50, table.size)
            self.assertEqual(trace(table, times(table, first, second)), trace(table, times(table, second, first)))

    def test_from_the_left(self):
        # in this table all things have the trace 2 from the left; turned about only 1
        self.assertEqual(trace(SAMPLES["left things"], [1, 0]), Ratio(2))
        self.assertEqual(trace(SAMPLES["right things"], [1, 0]), Ratio(1))


class FullLines(Case):
    def test_by_determinants(self):
        for name, table, mixture in all_mixtures(1):
            size = table.size
            if size > 6:
                continue
            line, left = self.call(full_line, table, mixture), plain(left_table(table, mixture))
            self.assertEqual(len(line), size + 1)
            self.assertEqual([type(number) for number in line], [Ratio] * (size + 1))
            for number in range(size + 1):
                square = [[number * (i == j) - left[i][j] for j in range(size)] for i in range(size)]
                worth = sum((coefficient * Fraction(number) ** place for place, coefficient in enumerate(plain(line))),
                            Fraction(0))
                self.assertEqual(worth, plain_determinant(square), name)

    def test_facts(self):
        for name, table, mixture in all_mixtures():
            line = full_line(table, mixture)
            self.assertEqual(line[-1], Ratio(1))
            self.assertEqual(line[-2], -trace(table, mixture))
            nought = ratios([0] * table.size)
            self.assertEqual(line_at(table, [0] + line, mixture), nought)
            if one(table) is not None:
                self.assertEqual(line_at(table, line, mixture), nought)

    def test_told(self):
        told = {
            ("upper two", (1, 0, 0)): [0, 1, -2, 1], ("root", (0, 1)): [-2, 0, 1], ("root", (1, 1)): [-1, -2, 1],
            ("powers", (3, 1, 0)): [-27, 27, -9, 1], ("empty three", (1, 2, 3)): [0, 0, 0, 1],
            ("left things", (1, 2)): [9, -6, 1], ("right things", (1, 2)): [0, -3, 1], ("half", (4,)): [-2, 1],
            ("squares", (1, 2, 3, 4)): [4, 20, 21, -10, 1],
        }
        for (name, mixture), line in told.items():
            self.assertEqual(self.call(full_line, SAMPLES[name], list(mixture)), ratios(line))

    def test_eight_things(self):
        mixture = [0, 1, 0, 0, 0, 0, 0, 0]
        self.assertEqual(full_line(SAMPLES["round eight"], mixture), ratios([-1] + [0] * 7 + [1]))
        self.assertEqual(full_line(noughts(8), mixture), ratios([0] * 8 + [1]))
        self.assertEqual(full_line(with_one(noughts(7)), [2] + [1] * 7),
                         ratios([256, -1024, 1792, -1792, 1120, -448, 112, -16, 1]))

    def test_only_traces_of_powers_matter(self):
        table = SAMPLES["turns"]
        mixtures = [[0, 1, 0, 0, 0, 0], [0, 0, 1, 0, 0, 0], [0, 0, 0, 1, 0, 0], [0, 0, 0, 0, 1, 0], [1, 0, 0, 1, 0, 0]]
        for first, second in itertools.product(mixtures, repeat=2):
            traces = [[trace(table, power(table, mixture, many)) for many in range(1, 7)]
                      for mixture in (first, second)]
            self.assertEqual(traces[0] == traces[1], full_line(table, first) == full_line(table, second))


if __name__ == "__main__":
    unittest.main()
