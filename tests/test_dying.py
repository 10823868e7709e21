"""[7], [44] to [48]: what dies, partners, papers, the dying power, and what goes along."""

import unittest

from producttables.dying import dies, dying, dying_paper, dying_power, is_dying_paper, is_partner, partner
from producttables.errors import InvalidMixture, InvalidTable
from producttables.lowest import nothing_power
from producttables.makers import behind, beside, crossed, in_letters, led_behind, noughts, turned, with_one
from producttables.parts import closed_of, is_side, part_power, side_of
from producttables.ratios import Ratio
from producttables.steps import joined, made_of, steps
from producttables.tables import times
from producttables.traces import trace_with
from samples import COMMUTING, DYING, SAMPLES, mixtures_of, one_in_letters, things_at
from support import Case, letters_of, numbers_of, plain, plain_steps, ratios
import support

LIVING = [name for name, (part, _) in DYING.items() if not part]


def mixtures_with_dying(name, seed, many=2):
    """Mixtures of a sample table, some that die among them."""
    table = SAMPLES[name]
    part = ratios(DYING[name][0])
    found = mixtures_of(table, seed, many)
    for place in range(len(part[:2])):
        amounts = ratios(numbers_of(seed + place, len(part)))
        found.append([sum((a * row[k] for a, row in zip(amounts, part)), Ratio(0)) for k in range(table.size)])
    return found


class What(Case):
    def test_dying_parts(self):
        for name, table in SAMPLES.items():
            part, power = DYING[name]
            told = self.call(dying, table)
            self.assertEqual(told, ratios(plain_steps(plain(part))), name)
            self.assertEqual(self.call(dying_power, table), power)
            self.assertIs(type(dying_power(table)), int)

    def test_side_part_with_power(self):
        for name, table in SAMPLES.items():
            part, power = dying(table), dying_power(table)
            self.assertIs(is_side(table, part), True)
            self.assertEqual(part_power(table, part, power), [])
            if power > 1:
                self.assertNotEqual(part_power(table, part, power - 1), [])
            self.assertLessEqual(power, len(part) + 1)

    def test_dies(self):
        for seed, (name, table) in enumerate(SAMPLES.items()):
            for mixture in mixtures_with_dying(name, seed):
                told = self.call(dies, table, mixture)
                self.assertIs(type(told), bool)
                self.assertIs(told, len(plain_steps(plain(list(DYING[name][0]) + [mixture]))) == len(DYING[name][0]))
                traces = [trace_with(table, mixture, table.thing(place)) for place in range(table.size)]
                self.assertIs(told, traces == ratios([0] * table.size))

    def test_greatest(self):
        # a mixture dies exactly if the least side part with it has a power that is nothing
        for seed, (name, table) in enumerate(SAMPLES.items()):
            for mixture in mixtures_with_dying(name, seed + 7, 1):
                least = side_of(table, [mixture])
                self.assertIs(dies(table, mixture), part_power(table, least, 9) == [])

    def test_powers_that_are_nought(self):
        for seed, (name, table) in enumerate(SAMPLES.items()):
            for mixture in mixtures_with_dying(name, seed, 1):
                if dies(table, mixture):
                    self.assertIsNotNone(nothing_power(table, mixture))
                elif name in COMMUTING:
                    self.assertIsNone(nothing_power(table, mixture))
        # the corner of two by two numbers lives
        self.assertEqual(nothing_power(SAMPLES["squares"], [0, 1, 0, 0]), 2)
        self.assertIs(dies(SAMPLES["squares"], [0, 1, 0, 0]), False)

    def test_tables_of_noughts(self):
        for size in range(1, 9):
            self.assertEqual(dying(noughts(size)), ratios(things_at(size, range(size))))
            self.assertEqual(dying_power(noughts(size)), 2)


class Partners(Case):
    def test_partner(self):
        for seed, (name, table) in enumerate(SAMPLES.items()):
            for mixture in mixtures_with_dying(name, seed):
                told = self.call(partner, table, mixture)
                self.assertEqual(told is None, dies(table, mixture))
                if told is None:
                    continue
                self.assertEqual({type(number) for number in told}, {Ratio})
                self.assertNotEqual(trace_with(table, mixture, told), Ratio(0))
                self.assertIs(is_partner(table, mixture, told), True)
                self.assertIsNone(nothing_power(table, times(table, mixture, told)))
                self.assertIsNone(nothing_power(table, times(table, told, mixture)))

    def test_is_partner(self):
        for seed, (name, table) in enumerate(SAMPLES.items()):
            mixtures = mixtures_with_dying(name, seed, 1)
            for mixture in mixtures:
                for other in mixtures:
                    wanted = trace_with(table, mixture, other) != Ratio(0)
                    self.assertIs(is_partner(table, mixture, other), wanted)
                    self.assertIs(is_partner(table, mixture, tuple(other)), wanted)

    def test_any_value(self):
        for name, mixture in (("root", [0, 1]), ("single", [2]), ("upper two", [0, 1, 0]), ("squares", [0, 1, 0, 0])):
            table = SAMPLES[name]

            def wanted(value, table=table, mixture=mixture):
                if not support.is_numbers(value, table.size, table.size):
                    return False
                return trace_with(table, mixture, value) != Ratio(0)

            self.tells(lambda value, table=table, mixture=mixture: is_partner(table, mixture, value), wanted)
        self.assertIs(is_partner(SAMPLES["root"], [1, 0], value=[True, 0]), False)
        self.assertIs(is_partner(SAMPLES["root"], [1, 0], [1, 0, 0]), False)
        self.assertIs(is_partner(SAMPLES["root"], [1, 0], [Ratio(1, 3), 0]), True)


class Papers(Case):
    def test_papers(self):
        for seed, (name, table) in enumerate(SAMPLES.items()):
            for mixture in mixtures_with_dying(name, seed):
                told = self.call(dying_paper, table, mixture)
                self.assertEqual(told is None, not dies(table, mixture))
                if told is None:
                    continue
                self.assertEqual([type(one) for one in told], [list, int])
                self.assertIs(type(told), tuple)
                part, many = told
                self.assertIs(is_side(table, part), True)
                self.assertEqual(part_power(table, part, many), [])
                self.assertIs(is_dying_paper(table, mixture, told), True)

    def test_told_papers(self):
        table = SAMPLES["powers"]
        for mixture, value, wanted in [
                ([0, 0, 1], ([[0, 0, 1]], 2), True), ([0, 0, 1], ([[0, 0, 1]], 1), False),
                ([0, 0, 1], ([[0, 0, Ratio(2, 3)]], 9), True), ([0, 0, 1], ([[0, 0, 1]], 10), False),
                ([0, 0, 1], ([[0, 0, 1]], 0), False), ([0, 0, 1], ([[0, 0, 1]], -1), False),
                ([0, 1, 0], ([[0, 0, 1]], 2), False), ([0, 1, 0], ([[0, 1, 0], [0, 0, 1]], 3), True),
                ([0, 1, 0], ([[0, 1, 1], [0, 2, 1]], 3), True), ([0, 1, 0], (((0, 1, 1), (0, 2, 1)), 4), True),
                ([0, 1, 0], ([[0, 1, 0], [0, 0, 1]], 2), False), ([0, 1, 0], ([[0, 1, 0]], 3), False),
                ([1, 0, 0], (things_at(3, [0, 1, 2]), 9), False), ([0, 0, 0], ([], 1), True), ([0, 0, 0], ((), 9), True),
                ([0, 0, 1], ([], 1), False), ([0, 0, 0], (things_at(3, [1, 2]), 3), True),
                ([0, 1, 0], ([[0, 1, 0], [0, 0, 1], [0, 1, 1]], 3), False), ([0, 0, 0], ([[0, 0, 0]], 1), False),
                ([0, 1, 0], [[[0, 1, 0], [0, 0, 1]], 3], False), ([0, 1, 0], (things_at(3, [1, 2]), Ratio(3)), False),
                ([0, 1, 0], (things_at(3, [1, 2]), True), False), ([0, 1, 0], (things_at(3, [1, 2]), 3, 3), False),
                ([0, 1, 0], (3, things_at(3, [1, 2])), False), ([0, 1, 0], (things_at(3, [1, 2]),), False),
                ([0, 0, 0], ([], True), False), ([0, 0, 0], (None, 1), False), ([0, 0, 0], ({}, 1), False),
                ([0, 0, 1], ([[False, 0, 1]], 2), False)]:
            self.assertIs(is_dying_paper(table, mixture, value), wanted, value)
            self.assertIs(is_dying_paper(table=table, mixture=ratios(mixture), value=value), wanted, value)

    def test_closed_is_not_enough(self):
        # the square of the corner is nought, but it is no side part
        self.assertIs(is_dying_paper(SAMPLES["squares"], [0, 1, 0, 0], ([[0, 1, 0, 0]], 2)), False)
        self.assertIs(is_dying_paper(SAMPLES["upper two"], [0, 1, 0], ([[0, 1, 0]], 2)), True)

    def test_least_powers(self):
        for name, table in SAMPLES.items():
            part, power = dying(table), dying_power(table)
            mixture = part[0] if part else [0] * table.size
            for many in range(1, 10):
                self.assertIs(is_dying_paper(table, mixture, (part, many)), many >= power)

    def test_any_value(self):
        for name in ("root", "powers", "empty", "upper two"):
            table = SAMPLES[name]
            for mixture in ([0] * table.size, table.thing(table.size - 1)):
                self.tells(lambda value, table=table, mixture=mixture: is_dying_paper(table, mixture, value),
                           lambda value: False)
                part, power = dying(table), dying_power(table)
                self.tells(lambda value, table=table, mixture=mixture, part=part:
                           is_dying_paper(table, mixture, (part, value)),
                           lambda value, table=table, mixture=mixture, power=power:
                           support.is_integer(value) and power <= value <= 9 and dies(table, mixture))
                self.tells(lambda value, table=table, mixture=mixture: is_dying_paper(table, mixture, (value, 9)),
                           lambda value, table=table, mixture=mixture: is_told(table, mixture, value))


def is_told(table, mixture, value):
    """Whether the value is a side part that is nothing by its ninth power, of which the mixture is made."""
    if not support.is_part(value, table.size) or not is_side(table, value):
        return False
    return part_power(table, value, 9) == [] and joined(value, [mixture]) == steps(value)


class Along(Case):
    def test_beside(self):
        for name, other in (("upper two", "powers"), ("root", "corner"), ("empty", "squares"), ("left things", "powers"),
                            ("single", "root")):
            first, second = SAMPLES[name], SAMPLES[other]
            ahead = [row + [0] * second.size for row in DYING[name][0]]
            rest = [[0] * first.size + row for row in DYING[other][0]]
            made = beside(first, second)
            self.assertEqual(dying(made), steps(ahead + rest))
            self.assertEqual(dying_power(made), max(DYING[name][1], DYING[other][1]))

    def test_turned(self):
        for name, table in SAMPLES.items():
            self.assertEqual(dying(turned(table)), dying(table))
            self.assertEqual(dying_power(turned(table)), dying_power(table))

    def test_crossed(self):
        for name, other in (("upper two", "root"), ("corner", "powers"), ("squares", "left things"), ("half", "corner"),
                            ("empty three", "root"), ("left things", "left things")):
            first, second = SAMPLES[name], SAMPLES[other]
            things, others = things_at(first.size, range(first.size)), things_at(second.size, range(second.size))
            pairs = [(a, b) for a in DYING[name][0] for b in others] + [(a, b) for a in things for b in DYING[other][0]]
            wanted = steps([[left * right for left in a for right in b] for a, b in pairs])
            self.assertEqual(dying(crossed(first, second)), wanted)

    def test_with_one(self):
        for name, table in SAMPLES.items():
            if table.size < 8:
                wanted = [[Ratio(0)] + row for row in dying(table)]
                self.assertEqual(dying(with_one(table)), wanted)
                self.assertEqual(dying_power(with_one(table)), dying_power(table))

    def test_behind(self):
        for name, table in SAMPLES.items():
            part = dying(table)
            if len(part) < table.size:
                self.assertEqual(dying(behind(table, part)), [])
                self.assertEqual(dying_power(behind(table, part)), 1)
            for mixture in mixtures_with_dying(name, 3, 1):
                self.assertEqual(dies(table, mixture), not any(plain(led_behind(table, part, mixture))))

    def test_in_letters(self):
        for seed, (name, table) in enumerate(SAMPLES.items()):
            if table.size > 4:
                continue
            letters = letters_of(seed + 48, table.size)
            made = in_letters(table, letters)
            wanted = [one_in_letters(row, letters) for row in ratios(DYING[name][0])]
            self.assertEqual(dying(made), steps(wanted))
            self.assertEqual(dying_power(made), DYING[name][1])

    def test_closed_parts_of_what_dies(self):
        for table in SAMPLES.values():
            part = dying(table)
            if part:
                least = closed_of(table, part[:1])
                self.assertTrue(all(made_of(part, row) is not None for row in least))


class Wrong(Case):
    def test_sequence(self):
        table = SAMPLES["root"]
        for function in (dies, partner, dying_paper):
            self.fails(InvalidTable, function, None, None, value=None)
            self.fails(InvalidMixture, function, table, [1, True], value=[1, True])
        for function in (is_partner, is_dying_paper):
            self.fails(InvalidTable, function, table.rows(), None, None, value=table.rows())
            self.fails(InvalidMixture, function, table, [1], None, value=[1])


if __name__ == "__main__":
    unittest.main()
