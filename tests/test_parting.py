"""[53], [54], [55]: the parting, blocks, simple tables, squares that are nought."""

import itertools
import unittest
from fractions import Fraction

from producttables.dying import dying
from producttables.errors import Dying, InvalidTable
from producttables.factors import factors
from producttables.lowest import nothing_power
from producttables.makers import (
    beside, crossed, four_table, in_letters, line_table, noughts, numbers_table, turned, upper_table, within,
)
from producttables.middle import full_one, is_middle, middle
from producttables.parting import block_sizes, blocks, is_parting, is_simple, parting, square_zero
from producttables.parts import is_side, part_times
from producttables.ratios import Ratio
from producttables.steps import steps
from producttables.tables import one, times
from producttables.undoing import is_own_square
from samples import COMMUTING, DYING, SAMPLES, one_in_letters, round_of
from support import Case, is_numbers, letters_of, numbers_of, plain, plain_line_times, plain_times, ratios
import support


def roots_table(roots):
    """The table of the line with these roots, unlike ones."""
    line = [Fraction(1)]
    for root in plain(roots):
        line = plain_line_times(line, [-root, Fraction(1)])
    return line_table(ratios(line))


def roots_squares(roots):
    """Its least own squares: each is 1 at one of the roots, 0 at the other ones."""
    found = []
    for root in plain(roots):
        made = [Fraction(1)]
        for other in plain(roots):
            if other != root:
                made = plain_line_times(made, [-other / (root - other), 1 / (root - other)])
        found.append(made + [Fraction(0)] * (len(roots) - len(made)))
    return found


# pieces: a table, its least own squares, the sizes of their blocks and of the blocks' middles
PIECES = {
    "single": (numbers_table(1), [[1]], [(1, 1)]),
    "half": (SAMPLES["half"], [[2]], [(1, 1)]),
    "squares": (numbers_table(2), [[1, 0, 0, 1]], [(4, 1)]),
    "root": (line_table([-2, 0, 1]), [[1, 0]], [(2, 2)]),
    "cube": (line_table([-2, 0, 0, 1]), [[1, 0, 0]], [(3, 3)]),
    "five": (line_table([1, 1, 1, 1, 1]), [[1, 0, 0, 0]], [(4, 4)]),
    "four": (four_table(-1, -1), [[1, 0, 0, 0]], [(4, 1)]),
    "four, split": (four_table(1, 1), [[1, 0, 0, 0]], [(4, 1)]),
    "four, other": (four_table(2, Ratio(3, 2)), [[1, 0, 0, 0]], [(4, 1)]),
    "two roots": (roots_table([1, -1]), roots_squares([1, -1]), [(1, 1)] * 2),
    "three roots": (roots_table([0, Ratio(1, 2), -3]), roots_squares([0, Ratio(1, 2), -3]), [(1, 1)] * 3),
    "five roots": (roots_table([1, 2, 3, 4, -5]), roots_squares([1, 2, 3, 4, -5]), [(1, 1)] * 5),
    "eight roots": (roots_table(list(range(8))), roots_squares(list(range(8))), [(1, 1)] * 8),
    "turns": (SAMPLES["turns"], [[Fraction(1, 6)] * 6, [Fraction(1, 6)] * 3 + [Fraction(-1, 6)] * 3,
                                 [Fraction(2, 3), Fraction(-1, 3), Fraction(-1, 3), 0, 0, 0]],
              [(1, 1), (1, 1), (4, 1)]),
}


def two_beside(first, second):
    table, squares, sizes = PIECES[first]
    other, more, other_sizes = PIECES[second]
    ahead = [list(row) + [0] * other.size for row in squares]
    return beside(table, other), ahead + [[0] * table.size + list(row) for row in more], sizes + other_sizes


def all_known():
    """Names with tables, their least own squares and the sizes, in no sequence."""
    for name, told in PIECES.items():
        yield name, told
    for first, second in itertools.combinations_with_replacement(PIECES, 2):
        if PIECES[first][0].size + PIECES[second][0].size <= 6:
            yield f"{first}, {second}", two_beside(first, second)
    for seed, (first, second) in enumerate([("squares", "root"), ("two roots", "three roots"), ("four", "single"),
                                            ("root", "root"), ("turns", "single"), ("single", "single")]):
        table, squares, sizes = two_beside(first, second)
        letters = letters_of(seed + 53, table.size)
        made = [one_in_letters(row, letters) for row in squares]
        yield f"{first}, {second} in letters", (in_letters(table, letters), made, sizes)


KNOWN = dict(all_known())


def rising(told):
    """The squares, rising, each with the sizes of its block."""
    return sorted(told, key=lambda pair: plain(pair[0]))


class Parting(Case):
    def test_known(self):
        for name, (table, squares, sizes) in KNOWN.items():
            wanted = rising(list(zip(squares, sizes)))
            told = self.call(parting, table)
            self.assertEqual(told, [ratios(square) for square, _ in wanted], name)
            self.assertEqual({type(number) for row in told for number in row}, {Ratio})
            self.assertEqual(len(told), len(factors(full_one(table)[1])))
            self.assertIs(is_parting(table, told), True)

    def test_facts(self):
        for name, table in SAMPLES.items():
            if DYING[name][0]:
                continue
            told = parting(table)
            self.assertEqual(plain(told), sorted(plain(told)))
            added = [Ratio.total(list(column)) for column in zip(*told)]
            self.assertEqual(added, one(table))
            for i, j in itertools.product(range(len(told)), repeat=2):
                wanted = told[i] if i == j else ratios([0] * table.size)
                self.assertEqual(times(table, told[i], told[j]), wanted)
            for square in told:
                self.assertIs(is_middle(table, square), True)
                self.assertIs(is_own_square(table, square), True)

    def test_rounds(self):
        # the turns of a round: one block for each divisor of their number
        for size, many in ((1, 1), (2, 2), (3, 2), (4, 3), (5, 2), (6, 4), (7, 2), (8, 4)):
            told = parting(round_of(size))
            self.assertEqual(len(told), many)
            self.assertIn(ratios([Fraction(1, size)] * size), told)

    def test_dying(self):
        for name, table in SAMPLES.items():
            if DYING[name][0]:
                for function in (parting, blocks, block_sizes):
                    self.fails(Dying, function, table)


class Blocks(Case):
    def test_blocks(self):
        for name, (table, _, _) in list(KNOWN.items())[::2]:
            squares, told = parting(table), self.call(blocks, table)
            self.assertEqual(len(told), len(squares))
            for square, block in zip(squares, told):
                self.assertEqual(block, steps([times(table, square, table.thing(place))
                                               for place in range(table.size)]))
                self.assertIs(is_side(table, block), True)
                own = within(table, block)
                self.assertIs(is_simple(own), True)
                made = [Ratio.total([amount * row[place] for amount, row in zip(one(own), block)])
                        for place in range(table.size)]
                self.assertEqual(made, square)
            for first, second in itertools.permutations(told, 2):
                self.assertEqual(part_times(table, first, second), [])
            self.assertEqual(len(steps([row for block in told for row in block])), table.size)
            self.assertEqual(sum(len(block) for block in told), table.size)

    def test_sizes(self):
        for name, (table, squares, sizes) in KNOWN.items():
            told = self.call(block_sizes, table)
            self.assertEqual(told, [size for _, size in rising(list(zip(squares, sizes)))], name)
            for pair in told:
                self.assertIs(type(pair), tuple)
                self.assertEqual([type(number) for number in pair], [int, int])

    def test_middles(self):
        for name, (table, _, _) in list(KNOWN.items())[::3]:
            for block, (size, inside) in zip(blocks(table), block_sizes(table)):
                self.assertEqual(size, len(block))
                self.assertEqual(inside, len(middle(within(table, block))))
                root = round((size // inside) ** 0.5)
                self.assertEqual(size, inside * root * root)

    def test_crossed(self):
        self.assertEqual(block_sizes(crossed(numbers_table(2), line_table([-2, 0, 1]))), [(8, 2)])
        self.assertEqual(sorted(block_sizes(crossed(line_table([-2, 0, 1]), line_table([-2, 0, 1])))), [(2, 2)] * 2)
        self.assertEqual(block_sizes(crossed(line_table([-2, 0, 1]), line_table([-3, 0, 1]))), [(4, 4)])
        self.assertEqual(block_sizes(crossed(four_table(-1, -1), line_table([-1, 0, 1]))), [(4, 1)] * 2)


class Simple(Case):
    def test_known(self):
        for name, (table, squares, _) in KNOWN.items():
            self.assertIs(self.call(is_simple, table), len(squares) == 1, name)

    def test_dying(self):
        for name, table in SAMPLES.items():
            if DYING[name][0]:
                self.assertIs(self.call(is_simple, table), False)
        self.assertIs(is_simple(noughts(1)), False)
        self.assertIs(is_simple(upper_table(2)), False)
        self.assertIs(is_simple(line_table([0, 0, 1])), False)


class Partings(Case):
    def test_added_together(self):
        # each sum of some, the other ones left or added, too
        for name in ("three roots", "turns", "squares, two roots", "root, two roots", "two roots, three roots in letters"):
            table = KNOWN[name][0]
            told = parting(table)
            for lots in ([[0, 1], list(range(2, len(told)))], [list(range(len(told)))],
                         [[at] for at in reversed(range(len(told)))]):
                value = [[Ratio.total([told[at][place] for at in lot]) for place in range(table.size)]
                         for lot in lots if lot]
                self.assertIs(self.call(is_parting, table, value), True)
                self.assertIs(is_parting(table, value[::-1]), True)

    def test_others(self):
        for name in ("two roots", "turns", "squares, two roots", "single, single in letters", "four", "five"):
            table = KNOWN[name][0]
            told = parting(table)
            nought = [0] * table.size
            changed = [[]]
            for at, square in enumerate(told):
                half = [number * Ratio(1, 2) for number in square]
                rest = told[:at] + told[at + 1:]
                changed.extend([rest, told + [square], rest + [half, half], rest + [[-number for number in square]],
                                rest + [nought], rest + [half]])
                for place in range(table.size):
                    made = square[:place] + [square[place] + Ratio(1, 3)] + square[place + 1:]
                    changed.append(rest + [made])
            changed.extend([told + [nought], [nought] + told, [nought], told + [[1] * (table.size + 1)],
                            told + [None], {0: told[0]}, tuple(told) + (nought,), told[0]])
            for value in changed:
                self.assertIs(is_parting(table, value), False, (name, value))
            self.assertIs(is_parting(table, tuple(tuple(square) for square in told)), True)

    def test_own_squares_that_are_not_of_the_middle(self):
        # apart, with the one as their sum, but not of the middle
        self.assertIs(is_parting(numbers_table(2), [[1, 0, 0, 0], [0, 0, 0, 1]]), False)
        self.assertIs(is_parting(upper_table(2), [[1, 0, 0], [0, 0, 1]]), False)

    def test_where_something_dies(self):
        self.assertIs(is_parting(upper_table(2), [[1, 0, 1]]), True)
        self.assertIs(is_parting(line_table([0, 0, 1]), [[1, 0]]), True)
        table = beside(line_table([0, 0, 1]), numbers_table(1))
        self.assertIs(is_parting(table, [[0, 0, 1], [1, 0, 0]]), True)
        self.assertIs(is_parting(table, [[0, 0, 1], [1, 1, 0]]), False)

    def test_without_a_one(self):
        for name in ("left things", "corner", "empty", "powers from one"):
            table = SAMPLES[name]
            for value in ([], [[0] * table.size], [[1] + [0] * (table.size - 1)]):
                self.assertIs(is_parting(table, value), False)

    def test_any_value(self):
        for name in ("single", "root", "round two", "half"):
            table = SAMPLES[name]

            def wanted(value, table=table):
                if type(value) not in (list, tuple) or len(value) != 1 or not is_numbers(value[0], table.size, table.size):
                    return False
                return ratios(value[0]) == one(table)

            self.tells(lambda value, table=table: is_parting(table, value), wanted)


class Noughts(Case):
    def test_square_zero(self):
        for seed, (name, table) in enumerate(SAMPLES.items()):
            found = [table.thing(place) for place in range(table.size)] + [[0] * table.size]
            found += [numbers_of(seed + at, table.size, 1, 1) for at in range(4)] + dying(table)
            for mixture in found:
                wanted = any(plain(mixture)) and not any(plain_times(table, plain(mixture), plain(mixture)))
                self.assertIs(self.call(square_zero, table, mixture), wanted)
                if wanted:
                    self.assertEqual(nothing_power(table, mixture), 2)
                    # in a commuting table only what dies has one
                    self.assertFalse(name in COMMUTING and not DYING[name][0])

    def test_told(self):
        table = numbers_table(2)
        for mixture, wanted in [([0, 1, 0, 0], True), ([0, 0, 5, 0], True), ([1, 1, -1, -1], True), ([0, 0, 0, 0], False),
                                ([1, 0, 0, 0], False), ([0, 1, 1, 0], False), ([2, -4, 1, -2], True)]:
            self.assertIs(self.call(square_zero, table, mixture), wanted)
        self.assertIs(square_zero(table, [False, 1, 0, 0]), False)
        self.assertIs(square_zero(table, value=[0, 1, 0]), False)
        self.assertIs(square_zero(four_table(1, 1), [0, 1, 0, 1]), True)
        self.assertIs(square_zero(four_table(1, -1), [0, 0, 1, 1]), True)
        for seed in range(8):
            self.assertIs(square_zero(four_table(-1, -1), numbers_of(seed, 4)), False)

    def test_any_value(self):
        for table in (noughts(2), upper_table(2), line_table([0, 0, 1]), noughts(1)):
            def wanted(value, table=table):
                if not support.is_numbers(value, table.size, table.size) or not any(plain(value)):
                    return False
                return not any(plain_times(table, plain(value), plain(value)))

            self.tells(lambda value, table=table: square_zero(table, value), wanted)


class Wrong(Case):
    def test_tables(self):
        for function in (parting, blocks, block_sizes, is_simple):
            self.fails(InvalidTable, function, [[[1]]], value=[[[1]]])
        for function in (is_parting, square_zero):
            self.fails(InvalidTable, function, None, None, value=None)

    def test_turned(self):
        for name, (table, squares, _) in list(KNOWN.items())[::4]:
            self.assertEqual(parting(turned(table)), parting(table))
            self.assertEqual(block_sizes(turned(table)), block_sizes(table))


if __name__ == "__main__":
    unittest.main()
