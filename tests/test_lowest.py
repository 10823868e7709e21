"""[23], [24], [25]: lines at mixtures, least lines, powers."""

import itertools
import unittest

from producttables.errors import InvalidLine, InvalidMixture, InvalidTable, NoOne
from producttables.lefts import full_line
from producttables.lines import divided, plus
from producttables.lines import times as line_times
from producttables.lowest import least_line, line_at, nothing_power, powers_part
from producttables.makers import line_table, noughts, with_one
from producttables.ratios import Ratio
from producttables.tables import added, scaled, times
from samples import ONES, SAMPLES, mixtures_of
from support import Case, plain, plain_steps, plain_sum, plain_times, ratios

LINES = [[], [0], [0, 0, 0], [5], [Ratio(1, 2), 0], [0, 1], [0, 0, 1], [3, 1], [1, 2, 1], [0, Ratio(2, 3), -1, 4],
         [-1, 0, 0, Ratio(1, 5)], [0] + [1] * 16, [2] + [0] * 15 + [Ratio(-1, 3)], [0, 0, 7] + [0] * 14]


def all_mixtures(many=2):
    for seed, (name, table) in enumerate(SAMPLES.items()):
        for mixture in mixtures_of(table, seed, many):
            yield name, table, mixture


def plain_powers(table, mixture, many):
    """The powers from the first one on, so many."""
    powers = [plain(mixture)]
    while len(powers) < many:
        powers.append(plain_times(table, powers[-1], plain(mixture)))
    return powers


class LineAt(Case):
    def test_worth(self):
        for name, table, mixture in all_mixtures(1):
            if table.size > 6:
                continue
            for line in LINES:
                if name not in ONES and line and plain(line)[0] != 0:
                    self.fails(NoOne, line_at, table, line, mixture)
                    continue
                powers = plain_powers(table, mixture, max(1, len(line) - 1))
                ahead = [plain(ONES.get(name, [0] * table.size))]
                wanted = plain_sum(plain(line), ahead + powers, table.size)
                self.assertEqual(self.call(line_at, table, line, mixture), ratios(wanted))

    def test_nought_and_the_one(self):
        for name in ONES:
            table = SAMPLES[name]
            self.assertEqual(line_at(table, [5, 3, 2], [0] * table.size), scaled(table, ONES[name], 5))
            self.assertEqual(line_at(table, [], ONES[name]), ratios([0] * table.size))
            self.assertEqual(line_at(table, [5, 3, 2], ONES[name]), scaled(table, ONES[name], 10))

    def test_no_one_is_wanted(self):
        table = noughts(2)
        for line, wanted in (([], 0), ([0], 0), ([0, 5], 5), ([Ratio(0), 0, 1], 0)):
            self.assertEqual(line_at(table, line, [1, 2]), ratios([wanted, 2 * wanted]))
        self.assertEqual(line_at(table, [0, 5, 7], [1, 2]), ratios([5, 10]))
        self.assertEqual(line_at(table, [], [1, 2]), ratios([0, 0]))
        self.fails(NoOne, line_at, table, [1], [0, 0])
        self.fails(NoOne, line_at, table, [Ratio(1, 3), 0, 0], [0, 0])

    def test_sums_and_products(self):
        for name, table, mixture in all_mixtures(1):
            if table.size > 4:
                continue
            for first, second in itertools.product([[0, 1, 2], [0, Ratio(1, 2)], [0, 0, 0, 3]], repeat=2):
                worths = [line_at(table, line, mixture) for line in (first, second)]
                self.assertEqual(line_at(table, plus(first, second), mixture), added(table, *worths))
                self.assertEqual(line_at(table, line_times(first, second), mixture), times(table, *worths))
                self.assertEqual(times(table, *worths), times(table, *worths[::-1]))

    def test_errors_in_sequence(self):
        table = noughts(2)
        self.fails(InvalidTable, line_at, None, None, None, value=None)
        self.fails(InvalidLine, line_at, table, [True], None, value=[True])
        self.fails(InvalidMixture, line_at, table, [1], [0], value=[0])
        self.fails(InvalidLine, line_at, table, [1] * 18, [0, 0], value=[1] * 18)


class LeastLines(Case):
    def test_least(self):
        for name, table, mixture in all_mixtures():
            line, size = self.call(least_line, table, mixture), table.size
            self.assertEqual([type(number) for number in line], [Ratio] * len(line))
            self.assertGreaterEqual(len(line), 2)
            self.assertLessEqual(len(line) - 1, size + (0 if name in ONES else 1))
            self.assertEqual(line[-1], Ratio(1))
            self.assertEqual(line_at(table, line, mixture), ratios([0] * size))
            # what stands ahead of the last one is made of none of the others
            powers = plain_powers(table, mixture, size + 1)
            ahead = [plain(ONES[name])] if name in ONES else []
            if name not in ONES:
                self.assertEqual(line[0], Ratio(0))
            lower = (ahead + powers)[:len(line) - (1 if name in ONES else 2)]
            self.assertEqual(len(plain_steps(lower)), len(lower), name)

    def test_goes_into_the_full_line(self):
        for name, table, mixture in all_mixtures():
            line = least_line(table, mixture)
            self.assertEqual(divided([0] + full_line(table, mixture), line)[1], [])

    def test_of_nought(self):
        for table in SAMPLES.values():
            self.assertEqual(least_line(table, [0] * table.size), [Ratio(0), Ratio(1)])

    def test_of_the_one(self):
        for name, unit in ONES.items():
            self.assertEqual(least_line(SAMPLES[name], unit), [Ratio(-1), Ratio(1)])
            self.assertEqual(least_line(SAMPLES[name], scaled(SAMPLES[name], unit, Ratio(2, 3))),
                             [Ratio(-2, 3), Ratio(1)])

    def test_told(self):
        told = {
            ("upper two", (1, 0, 0)): [0, -1, 1], ("upper two", (0, 1, 0)): [0, 0, 1], ("root", (0, 1)): [-2, 0, 1],
            ("left things", (1, 0)): [0, -1, 1], ("left things", (1, 1)): [0, -2, 1],
            ("left things", (1, -1)): [0, 0, 1], ("powers", (0, 1, 1)): [0, 0, 0, 1], ("half", (3,)): [Ratio(-3, 2), 1],
            ("powers from one", (1, 0, 0)): [0, 0, 0, 0, 1], ("powers from one", (0, 1, 0)): [0, 0, 1],
            ("empty", (1,)): [0, 0, 1], ("squares", (1, 2, 3, 4)): [-2, -5, 1],
        }
        for (name, mixture), line in told.items():
            self.assertEqual(least_line(SAMPLES[name], list(mixture)), ratios(line), name)

    def test_greatest_degrees(self):
        self.assertEqual(len(least_line(SAMPLES["round eight"], [0, 1] + [0] * 6)), 9)
        self.assertEqual(len(least_line(SAMPLES["powers from one, eight"], [1] + [0] * 7)), 10)


class Powers(Case):
    def test_part(self):
        for name, table, mixture in all_mixtures():
            told = self.call(powers_part, table, mixture)
            self.assertEqual(told, ratios(plain_steps(plain_powers(table, mixture, table.size + 2))))
            self.assertEqual(len(told) == 0, not any(plain(mixture)))
            for row, other in itertools.product(told, repeat=2):
                more = plain_steps(plain(told + [times(table, row, other)]))
                self.assertEqual(len(more), len(told))

    def test_told(self):
        table = SAMPLES["upper two"]
        self.assertEqual(powers_part(table, [1, 1, 0]), ratios([[1, 1, 0]]))
        self.assertEqual(powers_part(table, [2, 0, 1]), ratios([[1, 0, 0], [0, 0, 1]]))
        self.assertEqual(powers_part(table, [0, 0, 0]), [])
        self.assertEqual(len(powers_part(SAMPLES["powers from one, eight"], [1] * 8)), 8)

    def test_nothing_power(self):
        for name, table, mixture in all_mixtures():
            powers = plain_powers(table, mixture, 12)
            wanted = next((place + 1 for place, made in enumerate(powers) if not any(made)), None)
            told = self.call(nothing_power, table, mixture)
            self.assertEqual(told, wanted)
            if told is not None:
                self.assertIs(type(told), int)
                self.assertEqual(least_line(table, mixture), ratios([0] * told + [1]))

    def test_bounds(self):
        for size in range(1, 9):
            self.assertEqual(nothing_power(noughts(size), [0] * size), 1)
            self.assertEqual(nothing_power(noughts(size), [1] * size), 2)
        self.assertEqual(nothing_power(SAMPLES["powers eight"], [0, 1, 0, 0, 0, 0, 0, 0]), 8)
        self.assertEqual(nothing_power(SAMPLES["powers from one, eight"], [3] + [1] * 7), 9)
        self.assertIsNone(nothing_power(SAMPLES["powers"], [1, 0, 0]))
        self.assertIsNone(nothing_power(with_one(noughts(2)), [Ratio(1, 9), 1, 1]))
        self.assertEqual(nothing_power(line_table([0, 0, 0, 1]), [0, 2, 5]), 3)


if __name__ == "__main__":
    unittest.main()
