"""[33]: the factors of lines, and whole lines."""

import itertools
import random
import unittest

from producttables.errors import InvalidLine, NoughtLine, TooMany
from producttables.factors import factors, is_whole
from producttables.ratios import Ratio
from support import KINDS, Case, is_numbers, plain, plain_line, plain_line_times, ratios

# lines that are known to be whole: of degree 1, by Eisenstein, lines of roots of one, without roots in fractions
WHOLE = [
    [0, 1], [1, 1], [-1, 1], [-1, 2], [Ratio(2, 3), 1], [5, -3], [1, 0, 1], [1, 1, 1], [-2, 0, 1], [3, 0, 4],
    [Ratio(1, 2), 0, 3], [-1, -1, 1], [-2, 0, 0, 1], [1, -3, 0, 1], [1, 1, 0, 1], [1, 0, 0, 0, 1],
    [1, 0, -10, 0, 1], [1, 1, 1, 1, 1], [2, 4, 6, 8, 3], [1, 0, -1, 0, 1], [-1, -1, 0, 0, 0, 1], [6, 0, 3, 0, 9, 1],
    [1, 0, 0, 1, 0, 0, 1], [-2, 0, 0, 0, 0, 0, 1], [1, 1, 1, 1, 1, 1, 1], [3, 0, 0, 0, 6, 0, 0, 2],
    [-5, 0, 0, 0, 0, 0, 0, 1], [1, 0, 0, 0, 0, 0, 0, 0, 1], [576, 0, -960, 0, 352, 0, -40, 0, 1],
    [1, 0, 0, 0, -1, 0, 0, 0, 1], [-2, 0, 0, 0, 0, 0, 0, 0, 3], [1, -1, 0, 1, -1, 1, 0, -1, 1],
]
# turned about, these are whole by Eisenstein; none of the primes below 60 serves, for the second one none below 72
NO_PRIMES = [
    [Ratio(1, 510510), Ratio(1, 392863), Ratio(1, 65231), Ratio(1, 146969), 1],
    [Ratio(1, 510510), Ratio(1, 392863), Ratio(1, 65231), Ratio(1, 146969), Ratio(1, 290177), 1],
]


def with_head_one(line):
    return [number / plain(line)[-1] for number in plain(line)]


def moved(line, shift, stretch):
    """The line with stretch times t and shift put for t: whole exactly if the line is."""
    made = []
    for number in plain(line)[::-1]:
        made = plain_line_times(made, plain([shift, stretch])) or [0]
        made[0] += number
    return plain_line(made)


def product_of(lines, head=1):
    made = plain([head])
    for line in lines:
        made = plain_line_times(made, plain(line))
    return ratios(made)


def lots_of_lines():
    """Lists of known whole lines, the same one often among them, of degrees up to 8 together."""
    seeded = random.Random(33)
    for _ in range(60):
        found, left = [], seeded.choice([2, 3, 5, 8, 8])
        while left > 0:
            line = seeded.choice([one for one in WHOLE if len(one) - 1 <= left])
            if seeded.randint(0, 2) == 0:
                line = ratios(moved(line, seeded.randint(-2, 2), seeded.choice([1, -1, 2, 3])))
            for _ in range(seeded.choice([1, 1, 1, 2, 3])):
                if len(line) - 1 <= left:
                    found.append(line)
                    left -= len(line) - 1
        yield found, seeded.choice([1, -1, 2, Ratio(-3, 4), Ratio(5, 6)])


def wanted_of(lines):
    """The factors by the words of [33]."""
    told = [with_head_one(line) for line in lines]
    unlike = sorted({tuple(line) for line in told}, key=lambda line: (len(line), line))
    return [(ratios(list(line)), told.count(list(line))) for line in unlike]


class Factors(Case):
    def test_known_factors(self):
        for lines, head in lots_of_lines():
            line = product_of(lines, head)
            self.assertEqual(self.call(factors, line), wanted_of(lines))
            self.assertIs(self.call(is_whole, line), len(lines) == 1)

    def test_kinds(self):
        for told in factors([0, 0, -2, 0, 2]):
            self.assertIs(type(told), tuple)
            factor, many = told
            self.assertIs(type(factor), list)
            self.assertEqual({type(number) for number in factor}, {Ratio})
            self.assertIs(type(many), int)

    def test_one_factor_often(self):
        for line in WHOLE[:17]:
            for many in range(1, 8 // (len(line) - 1) + 1):
                self.assertEqual(factors(product_of([line] * many, 7)), [(ratios(with_head_one(line)), many)])

    def test_all_lines_of_roots(self):
        # t to the n less 1 has a factor for each divisor of n
        for degree, many in [(1, 1), (2, 2), (3, 2), (4, 3), (5, 2), (6, 4), (7, 2), (8, 4)]:
            told = factors([-1] + [0] * (degree - 1) + [1])
            self.assertEqual(len(told), many)
            self.assertEqual({often for _, often in told}, {1})
            self.assertEqual(product_of([factor for factor, _ in told]), ratios([-1] + [0] * (degree - 1) + [1]))

    def test_sequence(self):
        half, third = Ratio(1, 2), Ratio(1, 3)
        lines = [[-2, 1], [-1, 1], [-half, 1], [third, 1], [half, 1], [1, 1]]
        for some in itertools.islice(itertools.permutations(lines), 0, 720, 97):
            self.assertEqual(factors(product_of(some)), [(ratios(line), 1) for line in lines])
        # the lesser degree first, then c0, then c1
        lines = [[half, -1, 1], [1, -1, 1], [1, 0, 1], [1, half, 1], [7, 1]]
        self.assertEqual([factor for factor, _ in factors(product_of(lines[:4]))], ratios(lines[:4]))
        self.assertEqual([factor for factor, _ in factors(product_of(lines[1:]))], ratios([[7, 1]] + lines[1:4]))
        self.assertEqual(factors(product_of([[1, 1]] + lines[:3] + [[1, 1]])),
                         [(ratios([1, 1]), 2)] + [(ratios(line), 1) for line in lines[:3]])

    def test_numbers_and_nought(self):
        for number in (1, -1, 5, Ratio(2, 3)):
            self.assertEqual(self.call(factors, [number]), [])
            self.assertEqual(factors([number, 0, Ratio(0)]), [])
            self.assertIs(self.call(is_whole, [number, 0]), False)
        for nought in ([], [0], [Ratio(0)] * 17):
            self.fails(NoughtLine, factors, nought)
            self.assertIs(self.call(is_whole, nought), False)

    def test_noughts_at_the_end(self):
        for line in WHOLE[::4]:
            self.assertEqual(factors(line + [0] * (17 - len(line))), factors(line))
            self.assertIs(is_whole(line + [0, Ratio(0)]), True)

    def test_degrees(self):
        for degree in range(1, 17):
            for line in ([-1] + [0] * (degree - 1) + [3], [0] * degree + [1], [2] * degree + [Ratio(1, 2)]):
                if degree <= 8:
                    self.assertEqual(sum((len(one) - 1) * many for one, many in factors(line)), degree)
                    self.assertIs(type(is_whole(line)), bool)
                else:
                    self.fails(TooMany, factors, line, what="degree", limit=8)
                    self.fails(TooMany, is_whole, line, what="degree", limit=8)

    def test_great_numbers(self):
        first = [Ratio(999983, 999979), Ratio(-123456, 654321), 0, Ratio(777777, 2)]
        second = [Ratio(31, 999999), Ratio(1, 999998), Ratio(5, 7)]
        told = factors(product_of([first, second, second], Ratio(1, 999997)))
        self.assertEqual(told, wanted_of([first, second, second]))

    def test_no_small_prime_serves(self):
        for line in NO_PRIMES:
            self.assertIs(is_whole(line), True)
            for lines in ([line], [line, [1, 1], [-2, 0, 1]], [line, [1, 1], [1, 1], [1, 2]]):
                self.assertEqual(factors(product_of(lines)), wanted_of(lines))


class Whole(Case):
    def test_whole(self):
        for line in WHOLE:
            self.assertIs(self.call(is_whole, line), True, line)
            for shift, stretch in ((1, 1), (-3, 2), (Ratio(1, 2), -1)):
                self.assertIs(is_whole(ratios(moved(line, shift, stretch))), True)
            self.assertIs(is_whole([Ratio(-7, 5) * number for number in line]), True)

    def test_not_whole(self):
        for first, second in itertools.combinations_with_replacement(WHOLE, 2):
            if len(first) + len(second) <= 10:
                self.assertIs(is_whole(product_of([first, second])), False)

    def test_told(self):
        for line in ([4, 0, 0, 0, 1], [-1, 0, 4], [1, 2, 1], [0, 0, 1], [0, 5, 1], [1, 0, 1, 0, 1], [-9, 0, Ratio(1, 4)]):
            self.assertIs(self.call(is_whole, line), False)


class Wrong(Case):
    def test_lines(self):
        for value in KINDS:
            if not is_numbers(value, 0, 17):
                self.fails(InvalidLine, factors, value, value=value)
                self.fails(InvalidLine, is_whole, value, value=value)
        self.fails(InvalidLine, factors, [0] * 18, value=[0] * 18)
        self.fails(InvalidLine, factors, [1] * 10 + [True], value=[1] * 10 + [True])
        self.fails(InvalidLine, is_whole, [1] * 18, value=[1] * 18)


if __name__ == "__main__":
    unittest.main()
