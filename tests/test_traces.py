"""[41]: the traces of products."""

import unittest

from producttables.errors import InvalidMixture, InvalidTable
from producttables.lefts import trace
from producttables.makers import beside, crossed, turned
from producttables.ratios import Ratio
from producttables.tables import times
from producttables.traces import trace_with, traces
from samples import SAMPLES, mixtures_of
from support import Case, plain, plain_times, ratios


def plain_trace(table, mixture):
    """The sum, over all things i, of the amount of thing i in the mixture times it [7]."""
    total = 0
    for place in range(table.size):
        total += plain_times(table, plain(mixture), plain(table.thing(place)))[place]
    return total


class Traces(Case):
    def test_grid(self):
        for table in SAMPLES.values():
            told = self.call(traces, table)
            things = [table.thing(place) for place in range(table.size)]
            wanted = [[plain_trace(table, plain_times(table, plain(first), plain(second))) for second in things]
                      for first in things]
            self.assertEqual(told, ratios(wanted))
            self.assertEqual({type(number) for row in told for number in row}, {Ratio})
            self.assertEqual(told, [list(column) for column in zip(*told)])

    def test_told(self):
        self.assertEqual(traces(SAMPLES["root"]), ratios([[2, 0], [0, 4]]))
        self.assertEqual(traces(SAMPLES["squares"]), ratios([[2, 0, 0, 0], [0, 0, 2, 0], [0, 2, 0, 0], [0, 0, 0, 2]]))
        self.assertEqual(traces(SAMPLES["powers"]), ratios([[3, 0, 0], [0, 0, 0], [0, 0, 0]]))
        self.assertEqual(traces(SAMPLES["left things"]), ratios([[2, 2], [2, 2]]))
        self.assertEqual(traces(SAMPLES["empty"]), ratios([[0]]))
        self.assertEqual(traces(SAMPLES["half"]), [[Ratio(1, 4)]])

    def test_trace_with(self):
        for seed, table in enumerate(SAMPLES.values()):
            mixtures = mixtures_of(table, seed + 41, 2)
            for first in mixtures[::2]:
                for second in mixtures[1::2]:
                    told = self.call(trace_with, table, first, second)
                    self.assertIs(type(told), Ratio)
                    self.assertEqual(told, trace(table, times(table, first, second)))
                    self.assertEqual(told, trace_with(table, second, first))
                    grid = plain(traces(table))
                    wanted = sum(a * b * grid[i][j] for i, a in enumerate(plain(first))
                                 for j, b in enumerate(plain(second)))
                    self.assertEqual(plain(told), wanted)

    def test_of_two_tables(self):
        first, second = SAMPLES["root"], SAMPLES["upper two"]
        ahead, behind = traces(first), traces(second)
        wanted = [row + [0] * 3 for row in ahead] + [[0] * 2 + row for row in behind]
        self.assertEqual(traces(beside(first, second)), ratios(wanted))
        wanted = [[a * b for a in row for b in other] for row in ahead for other in behind]
        self.assertEqual(traces(crossed(first, second)), ratios(wanted))
        # turned about, the trace is that of the right tables: another one here
        self.assertNotEqual(traces(turned(second)), behind)
        self.assertEqual(traces(turned(second)), ratios([[1, 0, 0], [0, 0, 0], [0, 0, 2]]))

    def test_wrong(self):
        table = SAMPLES["root"]
        self.fails(InvalidTable, trace_with, table.rows(), None, None, value=table.rows())
        self.fails(InvalidMixture, trace_with, table, [1], None, value=[1])
        self.fails(InvalidMixture, trace_with, table, [1, 2], [1, True], value=[1, True])


if __name__ == "__main__":
    unittest.main()
