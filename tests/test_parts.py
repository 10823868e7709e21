"""[6], [42], [43]: parts, closed parts, side parts, products and powers of parts, least parts."""

import itertools
import random
import unittest

from producttables.errors import InvalidMany, InvalidMixture, InvalidMixtures, InvalidPart
from producttables.lowest import powers_part
from producttables.parts import (
    closed_of, is_closed, is_made, is_part, is_side, part_power, part_times, side_of, told_part,
)
from producttables.ratios import Ratio
from producttables.steps import joined, made_of, shared, steps
from producttables.tables import times
from samples import DYING, SAMPLES, mixtures_of, things_at
from support import KINDS, Case, numbers_of, plain, plain_steps, plain_sum, plain_times, ratios
import support


def parts_of(table, seed):
    """Nothing, all, and some other parts."""
    seeded = random.Random(seed)
    found = [[], things_at(table.size, range(table.size))]
    for many in range(1, table.size):
        rows = [numbers_of(seeded.randint(0, 9999), table.size, 2, 2) for _ in range(many)]
        if len(plain_steps(plain(rows))) == many:
            found.append(rows)
    return found + [things_at(table.size, [place]) for place in range(table.size)]


def other_rows(part, seed):
    """Other rows that make the same part."""
    if not part:
        return part
    seeded = random.Random(seed)
    while True:
        amounts = [[seeded.randint(-2, 2) for _ in part] for _ in part]
        rows = [ratios(plain_sum(row, plain(part), len(part[0]))) for row in amounts]
        if len(plain_steps(plain(rows))) == len(part):
            return rows


def plain_product(table, part, other):
    return ratios(plain_steps([plain_times(table, plain(a), plain(b)) for a in part for b in other]))


def makes(part, rows):
    return len(plain_steps(plain(list(part) + list(rows)))) == len(plain_steps(plain(part)))


class Parts(Case):
    def test_any_value(self):
        for name in ("root", "single", "upper two", "squares"):
            table = SAMPLES[name]
            self.tells(lambda value, table=table: is_part(table, value),
                       lambda value, table=table: support.is_part(value, table.size))

    def test_is_part(self):
        table = SAMPLES["powers"]
        for value in ([], (), [[1, 2, 3]], [(1, 2, 3), [0, 0, Ratio(1, 5)]], things_at(3, range(3)), ([0, 0, 1],)):
            self.assertIs(self.call(is_part, table, value), True)
        for value in ([[0, 0, 0]], [[1, 2]], [[1, 2, 3], [2, 4, 6]], [[1, 0, 0], [0, 1, 0], [1, 1, 0]],
                      things_at(3, range(3)) + [[1, 1, 1]], [[1, 2, 3, 4]], [[]], [[1, 2, True]], [None], [1, 2, 3],
                      [[1, 0, 0], [0, 0, 0]], [[1, 0, 0], [1, 0, 0]]):
            self.assertIs(is_part(table, value=value), False)

    def test_told_part(self):
        for seed, table in enumerate(SAMPLES.values()):
            for part in parts_of(table, seed)[::2]:
                self.assertEqual(self.call(told_part, table, part), steps(part))
                self.assertEqual(told_part(table, other_rows(part, seed)), steps(part))

    def test_is_made(self):
        for seed, table in enumerate(SAMPLES.values()):
            for part in parts_of(table, seed)[::2]:
                for mixture in mixtures_of(table, seed, 1) + [row for row in part[:1]]:
                    wanted = makes(part, [mixture])
                    self.assertIs(self.call(is_made, table, part, mixture), wanted)
                    self.assertIs(is_made(table, other_rows(part, seed), mixture), wanted)
        self.assertIs(is_made(SAMPLES["root"], [], [0, 0]), True)
        self.assertIs(is_made(SAMPLES["root"], [], [0, 1]), False)
        self.assertIs(is_made(SAMPLES["root"], [[2, 3]], [Ratio(1), Ratio(3, 2)]), True)


class Kinds(Case):
    def test_closed_and_side(self):
        seen = set()
        for seed, table in enumerate(SAMPLES.values()):
            everything = things_at(table.size, range(table.size))
            for part in parts_of(table, seed) + [DYING_PARTS[table_name(table)]]:
                closed = makes(part, plain_product(table, part, part))
                side = (makes(part, plain_product(table, part, everything))
                        and makes(part, plain_product(table, everything, part)))
                self.assertIs(self.call(is_closed, table, part), closed)
                self.assertIs(self.call(is_side, table, part), side)
                other = other_rows(part, seed)
                self.assertIs(is_closed(table, other), closed)
                self.assertIs(is_side(table, other), side)
                seen.add((closed, side))
        self.assertEqual(seen, {(False, False), (True, False), (True, True)})

    def test_told(self):
        table = SAMPLES["squares"]
        for part, closed, side in [([], True, True), ([[1, 0, 0, 0]], True, False), ([[0, 1, 0, 0]], True, False),
                                   ([[1, 0, 0, 0], [0, 1, 0, 0]], True, False), ([[0, 1, 1, 0]], False, False),
                                   ([[1, 0, 0, 0], [0, 0, 1, 0]], True, False), ([[1, 0, 0, 1]], True, False)]:
            self.assertIs(is_closed(table, part), closed)
            self.assertIs(is_side(table, part), side)
        self.assertIs(is_side(SAMPLES["upper two"], [[0, 1, 0]]), True)
        self.assertIs(is_side(SAMPLES["upper two"], [[1, 0, 0]]), False)
        self.assertIs(is_side(SAMPLES["corner"], [[0, 1]]), True)
        self.assertIs(is_side(SAMPLES["left things"], [[1, -1]]), True)
        # from one side alone is not enough
        self.assertIs(is_side(SAMPLES["left things"], [[1, 0]]), False)
        self.assertIs(is_side(SAMPLES["right things"], [[1, 0]]), False)


DYING_PARTS = {name: part for name, (part, _) in DYING.items()}


def table_name(table):
    return next(name for name, one in SAMPLES.items() if one is table)


class Products(Case):
    def test_products(self):
        for seed, table in enumerate(SAMPLES.values()):
            found = parts_of(table, seed)
            for part, other in list(itertools.product(found, repeat=2))[::7]:
                told = self.call(part_times, table, part, other)
                self.assertEqual(told, plain_product(table, part, other))
                self.assertEqual(part_times(table, other_rows(part, seed), other_rows(other, seed)), told)

    def test_powers(self):
        for seed, (name, table) in enumerate(SAMPLES.items()):
            for part in parts_of(table, seed)[1:5] + [DYING_PARTS[name]]:
                wanted = ratios(plain_steps(plain(part)))
                for many in range(1, 10):
                    told = self.call(part_power, table, part, many) if many < 4 else part_power(table, part, many)
                    self.assertEqual(told, wanted)
                    wanted = plain_product(table, wanted, part)

    def test_told(self):
        table = SAMPLES["powers eight"]
        for many in range(1, 10):
            self.assertEqual(part_power(table, things_at(8, range(1, 8)), many), ratios(things_at(8, range(many, 8))))
        self.assertEqual(part_power(table, [], 1), [])
        self.assertEqual(part_power(SAMPLES["squares"], [[0, 1, 0, 0]], 2), [])
        self.assertEqual(part_times(SAMPLES["squares"], [[0, 1, 0, 0]], [[0, 0, 3, 0]]), ratios([[1, 0, 0, 0]]))
        self.assertEqual(part_times(SAMPLES["squares"], [[0, 0, 3, 0]], [[0, 1, 0, 0]]), ratios([[0, 0, 0, 1]]))

    def test_brackets(self):
        for seed, table in enumerate(SAMPLES.values()):
            found = parts_of(table, seed)[1:5]
            for a, b, c in list(itertools.product(found, repeat=3))[::9]:
                self.assertEqual(part_times(table, part_times(table, a, b), c),
                                 part_times(table, a, part_times(table, b, c)))

    def test_side_parts(self):
        for seed, table in enumerate(SAMPLES.values()):
            mixtures = mixtures_of(table, seed, 1)
            sides = [side_of(table, [one]) for one in mixtures[1:4]]
            for first, second in itertools.product(sides, repeat=2):
                made = part_times(table, first, second)
                self.assertIs(is_side(table, made), True)
                self.assertTrue(makes(shared(first, second), made))


class Least(Case):
    def test_least(self):
        for seed, table in enumerate(SAMPLES.values()):
            mixtures = mixtures_of(table, seed + 43, 2)
            for some in ([], mixtures[:1], mixtures[1:2], mixtures[-1:], mixtures[1:3], mixtures[-2:], mixtures[:8]):
                for function, test in ((closed_of, is_closed), (side_of, is_side)):
                    told = self.call(function, table, some)
                    self.assertEqual(told, steps(told))
                    self.assertIs(test(table, told), True)
                    self.assertTrue(makes(told, some))
                    self.assertEqual(function(table, told), told)
                self.check_closed(table, some)
                self.check_side(table, some)

    def check_closed(self, table, some):
        """It is what all products in a row make [43]."""
        made, row = plain(some), plain(some)
        for _ in range(table.size):
            row = plain_steps([plain_times(table, one, plain(other)) for one in row for other in some])
            made = plain_steps(made + row)
        self.assertEqual(closed_of(table, some), ratios(plain_steps(made)))

    def check_side(self, table, some):
        """It is what they make, with products from the left, from the right and from both sides [43]."""
        things = plain([table.thing(place) for place in range(table.size)])
        ahead = [plain_times(table, thing, plain(one)) for thing in things for one in some]
        behind = [plain_times(table, one, thing) for thing in things for one in plain(some) + ahead]
        self.assertEqual(side_of(table, some), ratios(plain_steps(plain(some) + ahead + behind)))

    def test_one_mixture(self):
        for seed, table in enumerate(SAMPLES.values()):
            for mixture in mixtures_of(table, seed, 2):
                self.assertEqual(closed_of(table, [mixture]), powers_part(table, mixture))

    def test_told(self):
        for table in SAMPLES.values():
            self.assertEqual(closed_of(table, []), [])
            self.assertEqual(side_of(table, ()), [])
        self.assertEqual(len(side_of(SAMPLES["squares"], [[0, 1, 0, 0]])), 4)
        self.assertEqual(len(closed_of(SAMPLES["squares"], [[0, 1, 0, 0], [0, 0, 1, 0]])), 4)
        self.assertEqual(closed_of(SAMPLES["squares"], [[0, 1, 0, 0]]), ratios([[0, 1, 0, 0]]))
        self.assertEqual(side_of(SAMPLES["powers eight"], [things_at(8, [3])[0]]), ratios(things_at(8, range(3, 8))))
        self.assertEqual(closed_of(SAMPLES["powers eight"], things_at(8, [3])), ratios(things_at(8, [3, 6])))
        self.assertEqual(closed_of(SAMPLES["turns"], things_at(6, [1])), ratios(things_at(6, [0, 1, 2])))
        # without a one the mixture itself is made, too
        self.assertEqual(side_of(SAMPLES["empty three"], [[1, 2, 3]]), ratios([[1, 2, 3]]))
        self.assertEqual(side_of(SAMPLES["powers from one"], [[0, 1, 1]]), ratios(things_at(3, [1, 2])))
        self.assertEqual(side_of(SAMPLES["powers from one"], [[1, 0, 0]]), ratios(things_at(3, range(3))))

    def test_least_of_made_ones(self):
        # each closed part that makes the mixtures makes the least one
        table = SAMPLES["upper three"]
        for seed in range(6):
            first, second = numbers_of(seed, 6, 1, 1), numbers_of(seed + 50, 6, 1, 1)
            least = closed_of(table, [first])
            self.assertEqual(joined(closed_of(table, [first, second]), least), closed_of(table, [first, second]))
            for row in least:
                self.assertIsNotNone(made_of(least, times(table, row, first)))


class Wrong(Case):
    def test_bounds(self):
        table = SAMPLES["root"]
        for value in KINDS:
            if not (support.is_integer(value) and 1 <= value <= 9):
                self.fails(InvalidMany, part_power, table, [[1, 0]], value, value=value)
        self.assertEqual(part_power(table, [[1, 0]], 9), ratios([[1, 0]]))
        self.fails(InvalidMixtures, closed_of, table, [[1, 2]] * 9, value=[[1, 2]] * 9)
        self.fails(InvalidMixtures, side_of, table, [[1, 2], [1]], value=[[1, 2], [1]])
        self.assertEqual(len(side_of(table, [[1, 2]] * 8)), 2)

    def test_sequence(self):
        table = SAMPLES["root"]
        self.fails(InvalidPart, part_times, table, [[0, 0]], None, value=[[0, 0]])
        self.fails(InvalidPart, part_times, table, [[0, 1]], [[1, 1], [2, 2]], value=[[1, 1], [2, 2]])
        self.fails(InvalidPart, part_power, table, [[1]], 0, value=[[1]])
        self.fails(InvalidPart, is_made, table, [[1, 0], [0, 0]], [1], value=[[1, 0], [0, 0]])
        self.fails(InvalidMixture, is_made, table, [[1, 0]], [1, None], value=[1, None])


if __name__ == "__main__":
    unittest.main()
