"""[61]: the partners of the things of a table in which nothing dies."""

import unittest

from producttables.errors import Dying, InvalidTable
from producttables.makers import four_table, line_table, numbers_table
from producttables.partners import partners
from producttables.ratios import Ratio
from producttables.tables import one, times
from producttables.traces import trace_with
from samples import DYING, SAMPLES
from support import Case, plain, plain_times, ratios
from test_parting import KNOWN


class Partners(Case):
    def test_traces(self):
        for name, (table, _, _) in KNOWN.items():
            told = self.call(partners, table)
            self.assertEqual(len(told), table.size)
            self.assertEqual({type(number) for row in told for number in row}, {Ratio})
            for i in range(table.size):
                for j in range(table.size):
                    wanted = Ratio(1 if i == j else 0)
                    self.assertEqual(trace_with(table, table.thing(i), told[j]), wanted)
                    self.assertEqual(trace_with(table, told[j], table.thing(i)), wanted)

    def test_sums(self):
        for name, (table, _, _) in list(KNOWN.items())[::2]:
            told = partners(table)
            made = [times(table, table.thing(place), told[place]) for place in range(table.size)]
            self.assertEqual([Ratio.total(list(column)) for column in zip(*made)], one(table))
            # the sum of all (b x) beside y is that of all x beside (y b)
            for b in plain([table.thing(place) for place in range(table.size)])[:3]:
                ahead = [[0] * table.size for _ in range(table.size)]
                behind = [[0] * table.size for _ in range(table.size)]
                for place in range(table.size):
                    x, y = plain(table.thing(place)), plain(told[place])
                    first, second = plain_times(table, b, x), plain_times(table, y, b)
                    for i in range(table.size):
                        for j in range(table.size):
                            ahead[i][j] += first[i] * y[j]
                            behind[i][j] += x[i] * second[j]
                self.assertEqual(ahead, behind)

    def test_told(self):
        self.assertEqual(partners(line_table([-2, 0, 1])), ratios([[Ratio(1, 2), 0], [0, Ratio(1, 4)]]))
        half = Ratio(1, 2)
        self.assertEqual(partners(numbers_table(2)), ratios([[half, 0, 0, 0], [0, 0, half, 0], [0, half, 0, 0],
                                                             [0, 0, 0, half]]))
        part = Ratio(1, 4)
        self.assertEqual(partners(four_table(-1, -1)), ratios([[part, 0, 0, 0], [0, -part, 0, 0], [0, 0, -part, 0],
                                                               [0, 0, 0, -part]]))
        self.assertEqual(partners(SAMPLES["half"]), ratios([[4]]))

    def test_dying(self):
        for name, (part, _) in DYING.items():
            if part:
                self.fails(Dying, partners, SAMPLES[name])
            else:
                partners(SAMPLES[name])
        self.fails(InvalidTable, partners, [[[1]]], value=[[[1]]])


if __name__ == "__main__":
    unittest.main()
