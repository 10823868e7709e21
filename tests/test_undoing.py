"""[26], [27], [28]: what undoes and is killed, what commutes, own squares."""

import itertools
import unittest

from producttables.errors import InvalidMixtures, NoOne
from producttables.lefts import left_table, trace
from producttables.lowest import least_line
from producttables.makers import four_table, noughts
from producttables.ratios import Ratio
from producttables.steps import made_of, rank
from producttables.tables import times
from producttables.undoing import commuting, is_killer, is_own_square, killer, undone
from samples import COMMUTING, ONES, SAMPLES, mixtures_of
from support import KINDS, Case, plain, plain_steps, plain_times, ratios
import support


def all_mixtures(many=3):
    for seed, (name, table) in enumerate(SAMPLES.items()):
        for mixture in mixtures_of(table, seed, many):
            yield name, table, mixture


class Undone(Case):
    def test_undone(self):
        seen = set()
        for name, table, mixture in all_mixtures():
            if name not in ONES:
                self.fails(NoOne, undone, table, mixture)
                continue
            told = self.call(undone, table, mixture)
            seen.add(told is None)
            self.assertEqual(told is None, least_line(table, mixture)[0] == Ratio(0))
            if told is not None:
                self.assertEqual(times(table, mixture, told), ratios(ONES[name]))
                self.assertEqual(times(table, told, mixture), ratios(ONES[name]))
        self.assertEqual(seen, {True, False})

    def test_undone_or_kills(self):
        for name, table, mixture in all_mixtures():
            if name in ONES:
                self.assertNotEqual(undone(table, mixture) is None, killer(table, mixture) is None)

    def test_told(self):
        self.assertEqual(undone(SAMPLES["root"], [1, 1]), ratios([-1, 1]))
        self.assertEqual(undone(SAMPLES["squares"], [1, 2, 3, 4]), ratios([-2, 1, Ratio(3, 2), Ratio(-1, 2)]))
        self.assertIsNone(undone(SAMPLES["squares"], [1, 2, 2, 4]))
        self.assertEqual(undone(SAMPLES["half"], [Ratio(2, 3)]), [Ratio(6)])
        part = Ratio(1, 30)
        self.assertEqual(undone(four_table(-1, -1), [1, 2, 3, 4]), [part] + [part * -n for n in (2, 3, 4)])


class Killers(Case):
    def test_killer(self):
        for name, table, mixture in all_mixtures():
            told = self.call(killer, table, mixture)
            things = plain([table.thing(place) for place in range(table.size)])
            left = [plain_times(table, plain(mixture), thing) for thing in things]
            self.assertEqual(told is None, len(plain_steps(left)) == table.size, name)
            if told is not None:
                self.assertTrue(any(plain(told)))
                self.assertEqual(times(table, mixture, told), ratios([0] * table.size))
                self.assertIs(is_killer(table, mixture, told), True)

    def test_without_a_one(self):
        table = SAMPLES["left things"]
        self.assertIsNone(killer(table, [1, 0]))
        self.assertIsNone(killer(table, [1, 1]))
        self.assertIsNotNone(killer(table, [1, -1]))
        self.assertIsNotNone(killer(noughts(1), [1]))

    def test_of_nought(self):
        for table in SAMPLES.values():
            self.assertIs(is_killer(table, [0] * table.size, killer(table, [0] * table.size)), True)

    def test_both_sides_differ(self):
        # the corner: thing 1 times thing 0 is nought, thing 0 times thing 1 is not
        table = SAMPLES["corner"]
        self.assertIs(is_killer(table, [0, 1], [1, 0]), True)
        self.assertIs(is_killer(table, [1, 0], [0, 1]), False)
        self.assertIsNone(killer(table, [1, 0]))

    def test_any_value(self):
        table = SAMPLES["round two"]

        def wanted(value):
            if not support.is_numbers(value, 2, 2):
                return False
            return any(plain(value)) and plain_times(table, [1, 1], plain(value)) == [0, 0]

        self.tells(lambda value: is_killer(table, [1, 1], value), wanted)
        self.assertIs(is_killer(table, [1, 1], (Ratio(1, 2), Ratio(-1, 2))), True)
        self.assertIs(is_killer(table, [1, 1], value=[0, 0]), False)
        self.assertIs(is_killer(table, [1, 1], [1, -1, 0]), False)
        self.assertIs(is_killer(table, [1, 1], [True, -1]), False)
        self.assertIs(is_killer(table, [0, 0], [False, True]), False)
        self.assertIs(is_killer(noughts(1), [5], [1]), True)

    def test_mixtures_that_are_none(self):
        for name, table, mixture in all_mixtures(1):
            for other in mixtures_of(table, 9, 1):
                wanted = any(plain(other)) and not any(plain(times(table, mixture, other)))
                self.assertIs(self.call(is_killer, table, mixture, other), wanted)


class Commuting(Case):
    def test_commuting(self):
        for seed, (name, table) in enumerate(SAMPLES.items()):
            mixtures = mixtures_of(table, seed, 2)
            for told in (mixtures[1:2], mixtures[-1:], mixtures[-2:], [mixtures[0]], mixtures[1:8]):
                part = self.call(commuting, table, told)
                self.assertEqual(part, ratios(plain_steps(plain(part))))
                self.check(table, told, part)
                if name in COMMUTING:
                    self.assertEqual(len(part), table.size)

    def check(self, table, mixtures, part):
        """All of the part commutes with all mixtures, and there are as many as can be."""
        for row, mixture in itertools.product(part, mixtures):
            self.assertEqual(times(table, row, mixture), times(table, mixture, row))
        equations = []
        for mixture in mixtures:
            differ = [[a - b for a, b in zip(plain_times(table, plain(mixture), thing),
                                             plain_times(table, thing, plain(mixture)))]
                      for thing in plain([table.thing(place) for place in range(table.size)])]
            equations.extend([[row[place] for row in differ] for place in range(table.size)])
        self.assertEqual(len(part), table.size - len(plain_steps(equations)))

    def test_with_none(self):
        for table in SAMPLES.values():
            self.assertEqual(self.call(commuting, table, []), [table.thing(place) for place in range(table.size)])

    def test_told(self):
        table = SAMPLES["squares"]
        things = [table.thing(place) for place in range(4)]
        self.assertEqual(commuting(table, things), ratios([[1, 0, 0, 1]]))
        self.assertEqual(commuting(table, things[1:2]), ratios([[1, 0, 0, 1], [0, 1, 0, 0]]))
        self.assertEqual(commuting(table, [things[1], things[2]]), ratios([[1, 0, 0, 1]]))
        self.assertEqual(commuting(table, ([1, 0, 0, 0],)), ratios([[1, 0, 0, 0], [0, 0, 0, 1]]))
        self.assertEqual(commuting(SAMPLES["left things"], [[1, 0]]), ratios([[1, 0]]))

    def test_closed(self):
        for seed, table in enumerate(SAMPLES.values()):
            if table.size > 6:
                continue
            part = commuting(table, mixtures_of(table, seed, 1)[-1:])
            for row, other in itertools.product(part, repeat=2):
                self.assertIsNotNone(made_of(part, times(table, row, other)))

    def test_bounds(self):
        table = SAMPLES["root"]
        self.assertEqual(len(commuting(table, [[1, 2]] * 8)), 2)
        self.fails(InvalidMixtures, commuting, table, [[1, 2]] * 9, value=[[1, 2]] * 9)
        self.fails(InvalidMixtures, commuting, table, [[1, 2], [1, True]], value=[[1, 2], [1, True]])
        self.fails(InvalidMixtures, commuting, table, [[1, 2], [1, 2, 3]], value=[[1, 2], [1, 2, 3]])
        self.fails(InvalidMixtures, commuting, table, [1, 2], value=[1, 2])


class OwnSquares(Case):
    def test_any_value(self):
        for name in ("root", "half", "upper two", "left things"):
            table = SAMPLES[name]

            def wanted(value, table=table):
                if not support.is_numbers(value, table.size, table.size):
                    return False
                return plain_times(table, plain(value), plain(value)) == plain(value)

            self.tells(lambda value, table=table: is_own_square(table, value), wanted)

    def test_nought_and_one(self):
        for name, table in SAMPLES.items():
            self.assertIs(self.call(is_own_square, table, [0] * table.size), True)
            if name in ONES:
                self.assertIs(self.call(is_own_square, table, ONES[name]), True)
                self.assertIs(is_own_square(table, [number * 2 for number in ratios(ONES[name])]), False)

    def test_told(self):
        half = Ratio(1, 2)
        self.assertIs(is_own_square(SAMPLES["round two"], [half, half]), True)
        self.assertIs(is_own_square(SAMPLES["round two"], (half, -half)), True)
        self.assertIs(is_own_square(SAMPLES["round two"], [half, 1]), False)
        self.assertIs(is_own_square(SAMPLES["upper two"], value=[1, 7, 0]), True)
        self.assertIs(is_own_square(SAMPLES["upper two"], [1, 7, 1]), False)
        self.assertIs(is_own_square(SAMPLES["round two"], [True, False]), False)
        self.assertIs(is_own_square(noughts(2), [0, 1]), False)
        self.assertIs(is_own_square(SAMPLES["left three"], [Ratio(1, 3), Ratio(2, 3), 0]), True)

    def test_facts(self):
        half = Ratio(1, 2)
        for name, square in (("round two", [half, half]), ("upper two", [1, 7, 0]), ("squares", [1, 0, 5, 0])):
            table = SAMPLES[name]
            rest = [a - b for a, b in zip(ratios(ONES[name]), ratios(square))]
            self.assertIs(is_own_square(table, rest), True)
            self.assertIs(is_killer(table, square, rest), True)
            self.assertIs(is_killer(table, rest, square), True)
            self.assertEqual(trace(table, square), Ratio(rank(left_table(table, square))))


class Any(Case):
    def test_kinds_are_never_changed(self):
        before = str(KINDS)
        for value in KINDS:
            is_own_square(SAMPLES["root"], value)
            is_killer(SAMPLES["root"], [1, 0], value)
        self.assertEqual(str(KINDS), before)


if __name__ == "__main__":
    unittest.main()
