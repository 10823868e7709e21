"""[65], [66]: mixtures turned by 1 and what dies, and turnings between living parts."""

import unittest

from producttables.dying import dies, dying
from producttables.errors import InvalidMixture, InvalidPart, InvalidTable, NotDying, NotLiving
from producttables.living import is_living, living
from producttables.makers import led_behind, noughts, upper_table
from producttables.ratios import Ratio
from producttables.steps import steps
from producttables.tables import added, one, times
from producttables.turnings import is_turning, turned_part, turning
from producttables.undoing import undone
from samples import things_at
from support import Case, is_numbers, numbers_of, plain, ratios
from test_lifting import TABLES
from test_living import other_living
from test_parts import other_rows


def dead_ones(table, seed, many=2):
    """Nought and some mixtures that die."""
    part = dying(table)
    found = [ratios([0] * table.size)]
    for at in range(many if part else 0):
        amounts = ratios(numbers_of(10 * seed + at, len(part), 3, 2))
        found.append([Ratio.total([amount * row[place] for amount, row in zip(amounts, part)])
                      for place in range(table.size)])
    return found


def back_of(table, dead):
    """What is 1 and it together is undone by, less 1: the sum of its powers with signs."""
    made = [-number for number in dead]
    total, power = made, made
    while any(plain(power)):
        power = times(table, power, made)
        total = added(table, total, power)
    return total


class Turned(Case):
    def test_turned_parts(self):
        for seed, (name, table) in enumerate(TABLES.items()):
            part = living(table)
            for dead in dead_ones(table, seed):
                told = self.call(turned_part, table, part, dead)
                self.assertEqual(told, steps(told))
                self.assertIs(is_living(table, told), True)
                self.assertEqual(turned_part(table, other_rows(part, seed), dead), told)
                # turned back by what undoes 1 and it, less 1
                self.assertEqual(turned_part(table, told, back_of(table, dead)), part)
                self.assertIs(is_turning(table, part, told, dead), True)
                self.assertIs(is_turning(table, told, part, back_of(table, dead)), True)

    def test_with_a_one(self):
        # (1 + d) a, times what undoes 1 + d
        for seed, (name, table) in enumerate(TABLES.items()):
            unit = one(table)
            if unit is None:
                continue
            for dead in dead_ones(table, seed)[1:]:
                ahead = added(table, unit, dead)
                behind = undone(table, ahead)
                made = [times(table, times(table, ahead, row), behind) for row in living(table)]
                self.assertEqual(turned_part(table, living(table), dead), steps(made))
                for row, image in zip(living(table), made):
                    self.assertEqual(led_behind(table, dying(table), row), led_behind(table, dying(table), image))

    def test_told(self):
        upper, part = upper_table(2), [[1, 0, 0], [0, 0, 1]]
        self.assertEqual(turned_part(upper, part, [0, 3, 0]), steps([[1, -3, 0], [0, 3, 1]]))
        self.assertEqual(turned_part(upper, part, [0, 0, 0]), ratios(part))
        self.assertEqual(turned_part(noughts(2), [], [5, 7]), [])
        # without a one: the corner, (0, 0) turned by (0, 1)
        self.assertEqual(turned_part(TABLES["corner"], [[1, 0]], [0, 1]), ratios([[1, -1]]))
        # all commutes: nothing is turned
        self.assertEqual(turned_part(TABLES["powers"], [[1, 0, 0]], [0, 2, 5]), ratios([[1, 0, 0]]))


class Turnings(Case):
    def test_turning(self):
        for seed, (name, table) in enumerate(TABLES.items()):
            parts = [living(table), other_living(table, seed), other_living(table, seed + 70)]
            for part in parts:
                for other in parts:
                    told = turning(table, part, other)
                    self.assertEqual({type(number) for number in told}, {Ratio})
                    self.assertIs(dies(table, told), True)
                    self.assertEqual(turned_part(table, part, told), steps(other))
                    self.assertIs(is_turning(table, part, other, told), True)
            self.call(turning, table, parts[0], parts[1])

    def test_from_a_part_to_itself(self):
        for seed, (name, table) in enumerate(TABLES.items()):
            part = other_living(table, seed)
            self.assertIs(is_turning(table, part, living(table), [0] * table.size), steps(part) == living(table))
            self.assertIs(is_turning(table, part, other_rows(part, seed), [0] * table.size), True)

    def test_several(self):
        # what commutes with all turns each part to itself
        table = TABLES["squares and powers"]
        for part in (living(table), other_living(table, 5)):
            for number in (0, 1, Ratio(-2, 3)):
                self.assertIs(is_turning(table, part, part, [0, number, 0, 0, 0, 0, 0, number]), True)

    def test_told(self):
        upper, part, other = upper_table(2), [[1, 0, 0], [0, 0, 1]], [[1, 0, 1], [0, 1, 1]]
        for first, second, value, wanted in [
                (part, other, [0, 1, 0], True), (part, other, (0, Ratio(1), 0), True), (part, other, [0, 2, 0], False),
                (part, other, [0, 0, 0], False), (other, part, [0, -1, 0], True), (other, part, [0, 1, 0], False),
                (part, part, [0, 0, 0], True), (part, part, [0, 1, 0], False), (part, other, [1, 1, 0], False),
                (part, other, [0, 1], False), (part, other, [0, 1, 0, 0], False), (part, other, [0, True, 0], False),
                (part, other, [False, 1, 0], False), (part, other, None, False), (part, part, [1, 0, 1], False),
                (part, part, [-1, 0, 0], False)]:
            self.assertIs(is_turning(upper, first, second, value), wanted, value)
            self.assertIs(is_turning(table=upper, part=first, other=second, value=value), wanted, value)

    def test_any_value(self):
        upper, part, other = upper_table(2), [[1, 0, 0], [0, 0, 1]], [[1, 0, 1], [0, 1, 1]]
        self.tells(lambda value: is_turning(upper, part, other, value),
                   lambda value: is_numbers(value, 3, 3) and plain(value) == [0, 1, 0])
        self.tells(lambda value: is_turning(noughts(2), [], [], value), lambda value: is_numbers(value, 2, 2))
        root = TABLES["root"]
        everything = things_at(2, [0, 1])
        self.tells(lambda value: is_turning(root, everything, everything, value),
                   lambda value: is_numbers(value, 2, 2) and plain(value) == [0, 0])


class Wrong(Case):
    upper, part, other = upper_table(2), [[1, 0, 0], [0, 0, 1]], [[1, 0, 1], [0, 1, 1]]
    not_living = [[], [[1, 0, 1]], [[1, 0, 0], [0, 1, 0]], things_at(3, range(3)), [[1, 1, 0], [0, 1, 1]]]

    def test_not_living(self):
        for wrong in self.not_living:
            self.fails(NotLiving, turning, self.upper, wrong, self.part)
            self.fails(NotLiving, turning, self.upper, self.part, wrong)
            self.fails(NotLiving, is_turning, self.upper, wrong, self.part, None)
            self.fails(NotLiving, is_turning, self.upper, self.part, wrong, [0, 1, 0])
            self.fails(NotLiving, turned_part, self.upper, wrong, [0, 1, 0])
            # that the part is not living is told ahead of that the mixture lives
            self.fails(NotLiving, turned_part, self.upper, wrong, [1, 0, 0])
            self.fails(InvalidMixture, turned_part, self.upper, wrong, [1, 0], value=[1, 0])
            self.fails(InvalidPart, turning, self.upper, wrong, [[0, 0, 0]], value=[[0, 0, 0]])

    def test_not_dying(self):
        for mixture in ([1, 0, 0], [0, 1, 1], [1, 5, 1], [Ratio(1, 9), 0, 0]):
            self.fails(NotDying, turned_part, self.upper, self.part, mixture)
        self.fails(NotDying, turned_part, TABLES["root"], things_at(2, [0, 1]), [0, 1])

    def test_sequence(self):
        for function, more in ((turning, [None]), (is_turning, [None, None]), (turned_part, [None])):
            self.fails(InvalidTable, function, None, None, *more, value=None)
            self.fails(InvalidPart, function, self.upper, [[1, 0]], *more, value=[[1, 0]])
        self.fails(InvalidPart, turning, self.upper, self.part, None, value=None)
        self.fails(InvalidPart, is_turning, self.upper, self.part, [[1, 0, 0], [2, 0, 0]], None,
                   value=[[1, 0, 0], [2, 0, 0]])
        self.fails(InvalidMixture, turned_part, self.upper, self.part, [0, True, 0], value=[0, True, 0])


if __name__ == "__main__":
    unittest.main()
