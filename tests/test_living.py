"""[62], [63], [64]: living parts, halves of mixtures, and lifts of the quotient's mixtures."""

import unittest

from producttables.dying import dies, dying
from producttables.errors import InvalidMixture, InvalidPart, InvalidTable, NotLiving
from producttables.living import halves, is_living, lift, living
from producttables.makers import behind, led_behind, noughts, upper_table, with_one, within
from producttables.parting import block_sizes
from producttables.parts import is_closed, is_made
from producttables.ratios import Ratio
from producttables.steps import joined, shared, steps
from producttables.tables import one, times
from producttables.turnings import turned_part
from samples import things_at
from support import KINDS, Case, numbers_of, plain, ratios
from test_lifting import TABLES, WITH_QUOTIENT, quotient
from test_parts import other_rows
import support


def other_living(table, seed):
    """A living part, turned by something that dies, told by other rows."""
    part = dying(table)
    amounts = numbers_of(seed, len(part), 2, 2)
    dead = [Ratio.total([amount * row[place] for amount, row in zip(ratios(amounts), part)])
            for place in range(table.size)]
    return other_rows(turned_part(table, living(table), dead), seed)


class Living(Case):
    def check(self, table, part):
        """The words of [62]."""
        self.assertIs(is_closed(table, part), True)
        self.assertEqual(len(joined(part, dying(table))), table.size)
        self.assertEqual(shared(part, dying(table)), [])

    def test_living(self):
        for name, table in TABLES.items():
            told = self.call(living, table)
            self.assertEqual(told, steps(told))
            self.check(table, told)
            self.assertIs(self.call(is_living, table, told), True)

    def test_as_a_table(self):
        for name in WITH_QUOTIENT:
            table = TABLES[name]
            own = within(table, living(table))
            self.assertEqual(dying(own), [])
            self.assertEqual(sorted(block_sizes(own)), sorted(block_sizes(quotient(table))))

    def test_nothing_or_all_dies(self):
        for name, table in TABLES.items():
            part = dying(table)
            if not part:
                self.assertEqual(living(table), ratios(things_at(table.size, range(table.size))))
            if len(part) == table.size:
                self.assertEqual(living(table), [])
                self.assertIs(is_living(table, []), True)
                self.assertIs(is_living(table, part), False)
            else:
                self.assertIs(is_living(table, []), False)

    def test_of_the_table_with_a_one(self):
        # of a living part of the greater table what lies in the table is a living part
        for name in ("corner", "left three", "right things", "powers from one", "upper in letters", "corner and left"):
            table = TABLES[name]
            if table.size < 8:
                greater = living(with_one(table))
                inside = shared(greater, things_at(table.size + 1, range(1, table.size + 1)))
                self.assertIs(is_living(table, [row[1:] for row in inside]), True)

    def test_told(self):
        upper, powers = upper_table(2), TABLES["powers"]
        for table, value, wanted in [
                (upper, [[1, 0, 0], [0, 0, 1]], True), (upper, [[1, 7, 0], [0, -7, 1]], True),
                (upper, ([1, 7, 0], (1, 0, 1)), True), (upper, [[1, 7, 0], [0, 7, 1]], False),
                (upper, [[1, 0, 1], [0, 1, 0]], False), (upper, [[1, 0, 1]], False), (upper, [], False),
                (upper, things_at(3, [0, 1, 2]), False), (upper, [[1, 0, 0], [1, 0, 0]], False),
                (upper, [[1, 0, 0], [0, 0, True]], False), (upper, [[1, 0], [0, 1]], False),
                (powers, [[1, 0, 0]], True), (powers, [[Ratio(-2, 3), 0, 0]], True), (powers, [[1, 1, 0]], False),
                (powers, [[0, 1, 0]], False), (TABLES["corner"], [[1, 5]], True), (TABLES["corner"], [[0, 1]], False),
                (TABLES["left things"], [[1, 0]], True), (TABLES["left things"], [[3, -1]], True),
                (TABLES["left things"], [[1, -1]], False), (noughts(2), [], True), (noughts(2), (), True),
                (noughts(2), [[1, 0]], False)]:
            self.assertIs(is_living(table, value), wanted, value)
            self.assertIs(is_living(table=table, value=value), wanted, value)

    def test_other_rows_and_turned(self):
        for seed, (name, table) in enumerate(TABLES.items()):
            told = other_living(table, seed)
            self.check(table, told)
            self.assertIs(is_living(table, told), True)
            for at, row in enumerate(told):
                self.assertIs(is_living(table, told[:at] + told[at + 1:]), False)
                for dead in dying(table)[:1]:
                    moved = [left + right for left, right in zip(row, dead)]
                    value = told[:at] + [moved] + told[at + 1:]
                    self.assertIs(is_living(table, value), is_closed(table, value))

    def test_any_value(self):
        for table in (upper_table(2), noughts(2), TABLES["root"], TABLES["left things"], TABLES["corner"]):
            def wanted(value, table=table):
                if not support.is_part(value, table.size):
                    return False
                both = len(joined(value, dying(table))) == table.size and len(value) == table.size - len(dying(table))
                return both and is_closed(table, value)

            self.tells(lambda value, table=table: is_living(table, value), wanted)


class Halves(Case):
    def test_halves(self):
        for seed, (name, table) in enumerate(TABLES.items()):
            part = other_living(table, seed)
            for mixture in (numbers_of(seed, table.size), [0] * table.size, table.thing(table.size - 1)):
                told = self.call(halves, table, part, mixture)
                self.assertIs(type(told), tuple)
                ahead, rest = told
                self.assertEqual({type(number) for number in ahead + rest}, {Ratio})
                self.assertIs(is_made(table, part, ahead), True)
                self.assertIs(dies(table, rest), True)
                self.assertEqual([left + right for left, right in zip(ahead, rest)], ratios(list(mixture)))

    def test_products(self):
        for seed, (name, table) in enumerate(TABLES.items()):
            part = other_living(table, seed)
            first, second = numbers_of(seed + 1, table.size), numbers_of(seed + 2, table.size)
            made = times(table, halves(table, part, first)[0], halves(table, part, second)[0])
            self.assertEqual(halves(table, part, times(table, first, second))[0], made)

    def test_told(self):
        upper = upper_table(2)
        self.assertEqual(halves(upper, [[1, 0, 0], [0, 0, 1]], [3, 4, 5]), tuple(ratios([[3, 0, 5], [0, 4, 0]])))
        self.assertEqual(halves(upper, [[1, 2, 0], [0, -2, 1]], [3, 4, 5]), tuple(ratios([[3, -4, 5], [0, 8, 0]])))
        self.assertEqual(halves(noughts(2), [], [1, 2]), tuple(ratios([[0, 0], [1, 2]])))
        self.assertEqual(halves(TABLES["root"], [[1, 0], [1, 1]], [1, 2]), tuple(ratios([[1, 2], [0, 0]])))


class Lift(Case):
    def test_lift(self):
        for seed, name in enumerate(WITH_QUOTIENT):
            table = TABLES[name]
            part, dead, small = other_living(table, seed), dying(table), quotient(table)
            mixtures = [small.thing(place) for place in range(small.size)] + [numbers_of(seed, small.size)]
            told = [self.call(lift, table, part, mixture) for mixture in mixtures]
            for mixture, image in zip(mixtures, told):
                self.assertIs(is_made(table, part, image), True)
                self.assertEqual(led_behind(table, dead, image), ratios(list(mixture)))
            for first, image in zip(mixtures, told):
                made = lift(table, part, times(small, first, mixtures[-1]))
                self.assertEqual(times(table, image, told[-1]), made)
            unit = lift(table, part, one(small))
            for row in part:
                self.assertEqual(times(table, unit, row), ratios(row))
                self.assertEqual(times(table, row, unit), ratios(row))

    def test_all_dies(self):
        for table in (noughts(3), TABLES["powers from one"]):
            self.assertEqual(self.call(lift, table, [], []), ratios([0, 0, 0]))
            self.assertEqual(lift(table, (), ()), ratios([0, 0, 0]))
            for value in KINDS:
                if value not in ([], ()) or isinstance(value, dict):
                    self.fails(InvalidMixture, lift, table, [], value, value=value)
            self.fails(NotLiving, lift, table, [[1, 0, 0]], [])

    def test_told(self):
        upper = upper_table(2)
        self.assertEqual(lift(upper, [[1, 2, 0], [0, -2, 1]], [3, 5]), ratios([3, -4, 5]))
        self.assertEqual(lift(TABLES["root"], [[1, 1], [1, 0]], [3, 5]), ratios([3, 5]))
        self.assertEqual(behind(upper, dying(upper)).size, 2)


class Wrong(Case):
    def test_quotients_mixtures(self):
        upper = upper_table(2)
        for value in KINDS + [[1, 2, 3], [1], [1, True]]:
            if not support.is_numbers(value, 2, 2):
                # ahead of it that the part is not living
                for part in ([[1, 0, 0], [0, 0, 1]], [[1, 0, 0]], []):
                    self.fails(InvalidMixture, lift, upper, part, value, value=value)

    def test_not_living(self):
        upper = upper_table(2)
        for part in ([], [[1, 0, 1]], [[0, 1, 0]], [[1, 0, 0], [0, 1, 0]], [[1, 1, 0], [0, 1, 1]], things_at(3, range(3))):
            self.fails(NotLiving, halves, upper, part, [1, 2, 3])
            self.fails(NotLiving, lift, upper, part, [1, 2])
            self.fails(InvalidMixture, halves, upper, part, [1, 2], value=[1, 2])
        self.fails(NotLiving, halves, TABLES["root"], [[1, 0]], [1, 2])

    def test_sequence(self):
        upper = upper_table(2)
        for function in (halves, lift):
            self.fails(InvalidTable, function, None, None, None, value=None)
            self.fails(InvalidPart, function, upper, [[0, 0, 0]], None, value=[[0, 0, 0]])
            self.fails(InvalidPart, function, upper, [[1, 0], [0, 1]], None, value=[[1, 0], [0, 1]])
        self.fails(InvalidTable, living, [[[1]]], value=[[[1]]])
        self.fails(InvalidTable, is_living, None, None, value=None)


if __name__ == "__main__":
    unittest.main()
