"""[56]: own squares of the quotient by the dying part, lifted."""

import unittest

from producttables.dying import dying
from producttables.errors import InvalidMixtures, InvalidTable
from producttables.lifting import is_lifted, lifted
from producttables.living import lift, living
from producttables.makers import (
    behind, beside, crossed, in_letters, led_behind, line_table, noughts, numbers_table, upper_table,
)
from producttables.parting import parting
from producttables.ratios import Ratio
from producttables.tables import one, times
from samples import DYING, SAMPLES, things_at
from support import KINDS, Case, letters_of, plain, ratios
import support

TABLES = dict(SAMPLES)
TABLES.update({
    "cube of a line": line_table([-1, 0, 3, 0, -3, 0, 1]),
    "square of a root": line_table([4, 0, -4, 0, 1]),
    "two powers": beside(line_table([0, 0, 0, 1]), line_table([0, 0, 1])),
    "one and powers": beside(numbers_table(1), line_table([0] * 7 + [1])),
    "squares and powers": crossed(numbers_table(2), line_table([0, 0, 1])),
    "corner and left": beside(SAMPLES["corner"], SAMPLES["left three"]),
    "upper and noughts": beside(upper_table(3), noughts(2)),
    "upper, root in letters": in_letters(crossed(upper_table(2), line_table([-2, 0, 1])), letters_of(56, 6)),
    "upper three in letters": in_letters(upper_table(3), letters_of(57, 6)),
    "corner, noughts in letters": in_letters(beside(SAMPLES["corner"], noughts(1)), letters_of(59, 3)),
    "right, noughts, root in letters": in_letters(beside(crossed(SAMPLES["right things"], line_table([-2, 0, 1])),
                                                         noughts(2)), letters_of(60, 6)),
    "corner, root in letters": in_letters(crossed(SAMPLES["corner"], line_table([-2, 0, 1])), letters_of(61, 4)),
    "powers, single in letters": in_letters(beside(line_table([0] * 4 + [1]), numbers_table(1)), letters_of(58, 5)),
})
WITH_QUOTIENT = [name for name, table in TABLES.items() if len(dying(table)) < table.size]


def quotient(table):
    return behind(table, dying(table))


def lots_of(squares):
    """Lists of own squares, apart: of the least ones, sums, with nought, in any sequence."""
    nought = [Ratio(0)] * len(squares[0])
    found = [[], squares, squares[::-1], squares[:1], [nought], squares[1:] + [nought], [nought, nought] + squares[:1]]
    if len(squares) > 1:
        added = [left + right for left, right in zip(squares[0], squares[1])]
        found.append([added] + squares[2:])
    return [one_list for one_list in found if len(one_list) <= 8]


class Lifted(Case):
    def check(self, table, mixtures, told):
        """Own squares, apart, each told in the quotient as its own."""
        part, nought = dying(table), ratios([0] * table.size)
        self.assertEqual(len(told), len(mixtures))
        for i, first in enumerate(told):
            self.assertEqual(led_behind(table, part, first), ratios(list(mixtures[i])))
            for j, second in enumerate(told):
                self.assertEqual(times(table, first, second), first if i == j else nought)

    def test_partings(self):
        for name in WITH_QUOTIENT:
            table = TABLES[name]
            for mixtures in lots_of(parting(quotient(table))):
                told = self.call(lifted, table, mixtures)
                self.assertEqual({type(number) for row in told for number in row} - {Ratio}, set())
                self.check(table, mixtures, told)
                self.assertIs(self.call(is_lifted, table, mixtures, told), True)

    def test_ones(self):
        for name in WITH_QUOTIENT:
            table = TABLES[name]
            told = lifted(table, parting(quotient(table)))
            if one(table) is not None:
                self.assertEqual([Ratio.total(list(column)) for column in zip(*told)], one(table))
                self.assertEqual(lifted(table, [one(quotient(table))]), [one(table)])

    def test_other_own_squares(self):
        # own squares of the quotient that are not of its middle
        table = TABLES["squares and powers"]
        for mixtures in ([[1, 0, 0, 0], [0, 0, 0, 1]], [[1, 7, 0, 0]], [[1, 0, 5, 0], [0, 0, -5, 1]],
                         [[Ratio(1, 2), Ratio(1, 2), Ratio(1, 2), Ratio(1, 2)]]):
            told = self.call(lifted, table, mixtures)
            self.check(table, mixtures, told)
            self.assertIs(is_lifted(table, mixtures, told), True)

    def test_nought(self):
        for name in WITH_QUOTIENT:
            table = TABLES[name]
            nought = [0] * (table.size - len(dying(table)))
            self.assertEqual(lifted(table, [nought, nought]), ratios([[0] * table.size] * 2))
            for row in dying(table)[:2]:
                self.assertIs(is_lifted(table, [nought], [row]), False)

    def test_nothing_dies(self):
        for name, (part, _) in DYING.items():
            if not part:
                squares = parting(SAMPLES[name])
                self.assertEqual(lifted(SAMPLES[name], squares), squares)

    def test_along_a_living_part(self):
        for name in WITH_QUOTIENT:
            table = TABLES[name]
            mixtures, part = parting(quotient(table)), living(table)
            self.assertIs(is_lifted(table, mixtures, [lift(table, part, row) for row in mixtures]), True)

    def test_all_dies(self):
        for table in (noughts(1), noughts(8), SAMPLES["powers from one"]):
            self.assertEqual(self.call(lifted, table, []), [])
            self.assertIs(is_lifted(table, [], []), True)
            self.assertIs(is_lifted(table, (), ()), True)
            self.assertIs(is_lifted(table, [], [[0] * table.size]), False)
            for value in ([[]], [[], []], [[0]], [[0] * table.size], ((),)):
                self.fails(InvalidMixtures, lifted, table, value, value=value)
                self.fails(InvalidMixtures, is_lifted, table, value, None, value=value)


class Told(Case):
    def test_told(self):
        table = upper_table(2)
        for mixtures, value, wanted in [
                ([[1, 0]], [[1, 5, 0]], True), ([[1, 0]], [[1, Ratio(1, 3), 0]], True), ([[1, 0]], [[1, 0, 1]], False),
                ([[1, 0]], [[1, 5, 0], [0, 0, 0]], False), ([[1, 0], [0, 0]], [[1, 5, 0], [0, 0, 0]], True),
                ([[1, 0], [0, 1]], [[1, 5, 0], [0, -5, 1]], True), ([[1, 0], [0, 1]], [[1, 5, 0], [0, 5, 1]], False),
                ([[1, 0], [0, 1]], [[0, -5, 1], [1, 5, 0]], False), ([[1, 1]], [[1, 0, 1]], True),
                ([[1, 1]], [[1, 1, 1]], False), ([[0, 0]], [[0, 0, 0]], True), ([[0, 0]], [[0, 1, 0]], False),
                ([], [], True), ([], [[0, 0, 0]], False), ([[1, 0]], [], False), ([[1, 0]], ((1, 5, 0),), True),
                ([[1, 0]], [[True, 5, 0]], False), ([[1, 0]], [[1, 5]], False), ([[1, 0]], [None], False),
                ([[1, 0]], [[2, 0, 0]], False), ([[1, 0]], {0: [1, 5, 0]}, False), ([[1, 0]], [1, 5, 0], False)]:
            self.assertIs(is_lifted(table, mixtures, value), wanted, value)
            self.assertIs(is_lifted(table=table, mixtures=ratios(mixtures), value=value), wanted, value)

    def test_any_value(self):
        self.tells(lambda value: is_lifted(upper_table(2), [[1, 0]], value), lambda value: False)
        self.tells(lambda value: is_lifted(numbers_table(1), [[1]], value),
                   lambda value: type(value) in (list, tuple) and len(value) == 1
                   and support.is_numbers(value[0], 1, 1) and plain(value) == [[1]])
        self.tells(lambda value: is_lifted(noughts(2), [], value),
                   lambda value: type(value) in (list, tuple) and len(value) == 0)


class Wrong(Case):
    def test_mixtures(self):
        table = upper_table(2)

        def is_valid(value):
            if type(value) not in (list, tuple) or len(value) > 8:
                return False
            if not all(support.is_numbers(row, 2, 2) for row in value):
                return False
            # the quotient is that of two numbers, one beside the other
            rows = plain(value)
            return all(number in (0, 1) for row in rows for number in row) and all(sum(column) < 2 for column in zip(*rows))

        for value in KINDS + [[[1, 0], [1, 0]], [[1, 1], [0, 1]], [[2, 0]], [[Ratio(1, 2), 0]], [[0, 0]] * 8, [[0, 0]] * 9,
                              [[1, 0, 0]], [[1, 0], [0, 1], [0, 0]], [[1, -1]], [[1, 0], [0, True]]]:
            if is_valid(value):
                lifted(table, value)
                continue
            self.fails(InvalidMixtures, lifted, table, value, value=value)
            self.fails(InvalidMixtures, is_lifted, table, value, None, value=value)

    def test_not_apart_from_one_side(self):
        # one times the other is nought, the other way it is not
        table = numbers_table(2)
        self.fails(InvalidMixtures, lifted, table, [[1, 1, 0, 0], [0, 0, 0, 1]], value=[[1, 1, 0, 0], [0, 0, 0, 1]])
        self.fails(InvalidMixtures, lifted, table, [[0, 0, 0, 1], [1, 1, 0, 0]], value=[[0, 0, 0, 1], [1, 1, 0, 0]])
        self.assertEqual(lifted(table, things_at(4, [0, 3])), ratios(things_at(4, [0, 3])))

    def test_tables(self):
        self.fails(InvalidTable, lifted, None, None, value=None)
        self.fails(InvalidTable, is_lifted, [[[1]]], None, None, value=[[[1]]])


if __name__ == "__main__":
    unittest.main()
