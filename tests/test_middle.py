"""[51], [52]: the middle, and full ones of it."""

import unittest

from producttables.dying import dying
from producttables.errors import Dying, InvalidMixture, InvalidTable
from producttables.factors import factors
from producttables.lowest import least_line, line_at
from producttables.makers import beside, four_table, in_letters, line_table, noughts, numbers_table, upper_table
from producttables.middle import full_one, is_middle, middle
from producttables.parts import is_closed
from producttables.ratios import Ratio
from producttables.steps import steps
from producttables.tables import one, times
from producttables.wholes import whole_paper
from samples import COMMUTING, DYING, ONES, SAMPLES, mixtures_of, round_of, things_at
from support import Case, letters_of, plain, plain_steps, plain_times, ratios

# how many mixtures the middle has
SIZES = {"upper two": 1, "upper three": 1, "corner": 0, "squares": 1, "turns": 3, "left things": 0, "left three": 0,
         "right things": 0, "upper in letters": 1, "squares in letters": 1, "left in letters": 0}
# tables in which nothing dies, with the size of the middle
LIVING = {
    "single": (SAMPLES["single"], 1), "half": (SAMPLES["half"], 1), "root": (SAMPLES["root"], 2),
    "round eight": (SAMPLES["round eight"], 8), "turns": (SAMPLES["turns"], 3),
    "squares in letters": (SAMPLES["squares in letters"], 1), "four": (four_table(-1, -1), 1),
    "four, root": (beside(four_table(2, 3), line_table([-2, 0, 1])), 3),
    "like ones": (beside(line_table([-2, 0, 1]), line_table([-2, 0, 1])), 4),
    "numbers": (line_table([0, 720, -1764, 1624, -735, 175, -21, 1]), 7),
    "eight numbers": (beside(beside(round_of(2), round_of(2)), beside(round_of(2), round_of(2))), 8),
    "in letters": (in_letters(SAMPLES["turns"], letters_of(51, 6)), 3),
}


def plain_middle(table):
    """All mixtures that make the same with each thing in either sequence, by Fractions."""
    things = plain([table.thing(place) for place in range(table.size)])
    equations = []
    for thing in things:
        differ = [[a - b for a, b in zip(plain_times(table, one_thing, thing), plain_times(table, thing, one_thing))]
                  for one_thing in things]
        equations.extend([list(column) for column in zip(*differ)])
    return table.size - len(plain_steps(equations))


class Middle(Case):
    def test_middle(self):
        for name, table in SAMPLES.items():
            told = self.call(middle, table)
            self.assertEqual(told, steps(told))
            self.assertEqual(len(told), table.size if name in COMMUTING else SIZES[name])
            self.assertEqual(len(told), plain_middle(table))
            self.assertIs(is_closed(table, told), True)
            for row in told:
                for place in range(table.size):
                    thing = table.thing(place)
                    self.assertEqual(times(table, row, thing), times(table, thing, row))
            if name in ONES:
                self.assertIs(is_middle(table, ONES[name]), True)

    def test_is_middle(self):
        for seed, table in enumerate(SAMPLES.values()):
            part = middle(table)
            for mixture in mixtures_of(table, seed + 51, 2) + part[:2]:
                wanted = all(times(table, mixture, table.thing(place)) == times(table, table.thing(place), mixture)
                             for place in range(table.size))
                self.assertIs(self.call(is_middle, table, mixture), wanted)

    def test_told(self):
        self.assertEqual(middle(numbers_table(2)), ratios([[1, 0, 0, 1]]))
        self.assertEqual(middle(upper_table(2)), ratios([[1, 0, 1]]))
        self.assertEqual(middle(noughts(3)), ratios(things_at(3, range(3))))
        self.assertEqual(middle(SAMPLES["corner"]), [])
        self.assertEqual(middle(SAMPLES["turns"]), ratios([[1, 0, 0, 0, 0, 0], [0, 1, 1, 0, 0, 0], [0, 0, 0, 1, 1, 1]]))

    def test_beside(self):
        for name, other in (("squares", "root"), ("upper two", "powers"), ("corner", "left things")):
            first, second = SAMPLES[name], SAMPLES[other]
            wanted = [row + [0] * second.size for row in middle(first)]
            wanted += [[0] * first.size + row for row in middle(second)]
            self.assertEqual(middle(beside(first, second)), ratios(wanted))


class Full(Case):
    def test_full_one(self):
        for name, (table, size) in LIVING.items():
            self.assertEqual(len(middle(table)), size, name)
            told = self.call(full_one, table)
            self.assertIs(type(told), tuple)
            mixture, line = told
            self.assertEqual({type(number) for number in mixture + line}, {Ratio})
            self.assertEqual(len(mixture), table.size)
            self.assertIs(is_middle(table, mixture), True)
            self.assertEqual(line, least_line(table, mixture))
            self.assertEqual(len(line) - 1, size)
            self.assertEqual(line_at(table, line, mixture), ratios([0] * table.size))
            # no factor stands twice; its powers from the one on make the middle
            self.assertEqual({many for _, many in factors(line)}, {1})
            powers = [one(table)]
            while len(powers) < size:
                powers.append(times(table, powers[-1], mixture))
            self.assertEqual(steps(powers), middle(table))

    def test_papers_of_its_line(self):
        for name in ("single", "root", "four", "squares in letters"):
            self.assertIsNotNone(whole_paper(full_one(LIVING[name][0])[1]))

    def test_dying(self):
        for name, table in SAMPLES.items():
            if DYING[name][0]:
                self.assertNotEqual(dying(table), [])
                self.fails(Dying, full_one, table)
            else:
                full_one(table)

    def test_wrong(self):
        for function in (middle, full_one):
            self.fails(InvalidTable, function, [[[1]]], value=[[[1]]])
        self.fails(InvalidTable, is_middle, None, None, value=None)
        self.fails(InvalidMixture, is_middle, SAMPLES["powers"], [1, 2], value=[1, 2])


if __name__ == "__main__":
    unittest.main()
