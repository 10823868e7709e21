"""[7], [31], [32]: lines, their sums, products, quotients, common parts and bare lines."""

import itertools
import random
import unittest
from fractions import Fraction

from producttables.errors import InvalidLine, NoughtLine, TooMany
from producttables.lines import (
    bare, common, degree, derived, divided, is_line, minus, plus, scaled, times, told, worth,
)
from producttables.ratios import Ratio
from support import KINDS, Case, plain, plain_line as cut, plain_line_times, ratios
import support


def some_lines():
    seeded = random.Random(31)
    found = [[], [0], [0, 0, 0], [5], [Ratio(-1, 2)], [0, 1], [1, 1], [-1, 1], [-1, 0, 1], [1, 2, 1], [0, 0, 3, 0, 0],
             [12, 12, 3], [Ratio(1, 2), Ratio(-2, 3), 0, Ratio(5, 7)], [0] * 17, [1] * 17, [0] * 16 + [2],
             [0, 0, 0, 0, 1], [4, 0, -5, 0, 1], [7] + [0] * 16]
    for _ in range(12):
        found.append([seeded.randint(-3, 3) for _ in range(seeded.randint(1, 7))])
        found.append([Ratio(seeded.randint(-3, 3), seeded.randint(1, 4)) for _ in range(seeded.randint(1, 5))])
    return found


class Told(Case):
    def test_is_line(self):
        self.tells(is_line, lambda value: support.is_numbers(value, 0, 17))
        self.assertIs(is_line([0] * 17), True)
        self.assertIs(is_line([0] * 18), False)
        self.assertIs(is_line(value=()), True)
        self.assertIs(is_line([1, True]), False)

    def test_told_and_degree(self):
        for line in some_lines():
            self.assertEqual(self.call(told, line), ratios(cut(plain(line))))
            self.assertEqual([type(number) for number in told(line)], [Ratio] * len(told(line)))
            self.assertEqual(self.call(degree, line), len(cut(plain(line))) - 1)
            self.assertIs(type(degree(line)), int)
        self.assertEqual([degree([]), degree([0]), degree([0, 0]), degree([3]), degree([0, 3, 0])], [-1, -1, -1, 0, 1])


class Sums(Case):
    def test_plus_and_minus(self):
        for first, second in itertools.product(some_lines()[::2], some_lines()[::3]):
            for function, sign in ((plus, 1), (minus, -1)):
                pairs = itertools.zip_longest(plain(first), plain(second), fillvalue=Fraction(0))
                wanted = cut([a + sign * b for a, b in pairs])
                self.assertEqual(self.call(function, first, second), ratios(wanted))
        for line in some_lines():
            self.assertEqual(minus(line, line), [])
            self.assertEqual(plus(line, [number * -1 for number in line]), [])

    def test_scaled(self):
        for line in some_lines():
            for number in (0, 1, -2, Ratio(3, 4), Ratio(0)):
                wanted = cut([one * plain(number) for one in plain(line)])
                self.assertEqual(self.call(scaled, line, number), ratios(wanted))

    def test_derived(self):
        for line in some_lines():
            wanted = cut([place * number for place, number in enumerate(plain(line))][1:])
            self.assertEqual(self.call(derived, line), ratios(wanted))
        self.assertEqual(derived([5, 3, Ratio(1, 2), 4]), ratios([3, 1, 12]))

    def test_worth(self):
        for line in some_lines():
            for number in (0, 1, -3, Ratio(2, 3), Ratio(-1, 2)):
                made = self.call(worth, line, number)
                self.assertIs(type(made), Ratio)
                wanted = sum((one * plain(number) ** place for place, one in enumerate(plain(line))), Fraction(0))
                self.assertEqual(plain(made), wanted)


class Products(Case):
    def test_times(self):
        for first, second in itertools.product(some_lines()[::2], some_lines()[::3]):
            if max(degree(first), 0) + max(degree(second), 0) > 16:
                self.fails(TooMany, times, first, second, what="degree", limit=16)
                continue
            self.assertEqual(self.call(times, first, second), ratios(plain_line_times(plain(first), plain(second))))

    def test_bounds(self):
        for first in range(17):
            for second in range(17):
                lines = [0] * first + [2], [0] * second + [3]
                if first + second <= 16:
                    self.assertEqual(times(*lines), ratios([0] * (first + second) + [6]))
                else:
                    self.fails(TooMany, times, *lines, what="degree", limit=16)
        for nought in ([], [0], [0] * 17):
            self.assertEqual(times(nought, [0] * 16 + [1]), [])
            self.assertEqual(times([0] * 16 + [1], nought), [])
        # noughts at the end count for nothing
        self.assertEqual(times([1, 1] + [0] * 15, [1, -1] + [0] * 15), ratios([1, 0, -1]))

    def test_divided(self):
        for first, second in itertools.product(some_lines()[::2], some_lines()):
            if degree(second) < 0:
                self.fails(NoughtLine, divided, first, second)
                continue
            both = self.call(divided, first, second)
            self.assertIs(type(both), tuple)
            self.assertEqual([type(one) for one in both], [list, list])
            quotient, rest = both
            self.assertEqual((told(quotient), told(rest)), both)
            self.assertLess(degree(rest), degree(second))
            made = plain_line_times(plain(quotient), plain(second))
            pairs = itertools.zip_longest(made, plain(rest), fillvalue=Fraction(0))
            self.assertEqual(cut([a + b for a, b in pairs]), cut(plain(first)))

    def test_divided_told(self):
        self.assertEqual(divided([-1, 0, 0, 1], [-1, 1]), (ratios([1, 1, 1]), []))
        self.assertEqual(divided([1, 2], [0, 0, 5]), ([], ratios([1, 2])))
        self.assertEqual(divided([1, 2, 3], [2, 0]), (ratios([Ratio(1, 2), 1, Ratio(3, 2)]), []))
        self.assertEqual(divided([], [1, 1]), ([], []))


class Common(Case):
    def test_common(self):
        for first, second in itertools.product(some_lines()[::2], some_lines()[::2]):
            made = self.call(common, first, second)
            self.assertEqual(made, told(made))
            if degree(first) < 0 and degree(second) < 0:
                self.assertEqual(made, [])
                continue
            self.assertEqual(made[-1], Ratio(1))
            self.assertEqual(divided(first, made)[1], [])
            self.assertEqual(divided(second, made)[1], [])
            self.assertEqual(common(second, first), made)

    def test_greatest(self):
        # both times a third one have just that in common, where they had nothing
        pairs = [([1, 1], [-1, 1]), ([1, 0, 1], [2, 0, 1]), ([0, 1], [1, 1, 1]), ([3], [0, 0, 1]), ([2], [5])]
        for (first, second), third in itertools.product(pairs, [[1], [-2, 4], [1, 1, 1], [0, 0, Ratio(1, 2)]]):
            self.assertEqual(common(first, second), [Ratio(1)])
            head = ratios(third)[-1]
            self.assertEqual(common(times(first, third), times(second, third)),
                             [number.over(head) for number in ratios(third)])

    def test_nought_and_numbers(self):
        self.assertEqual(common([], [2, 4]), ratios([Ratio(1, 2), 1]))
        self.assertEqual(common([2, 4, 0], [0, 0]), ratios([Ratio(1, 2), 1]))
        self.assertEqual(common([0], []), [])
        self.assertEqual(common([5], [0]), ratios([1]))
        self.assertEqual(common([5], [1, 1]), ratios([1]))
        self.assertEqual(common([1, 1], [Ratio(2, 3)]), ratios([1]))

    def test_bare(self):
        for line in some_lines():
            if degree(line) < 0:
                self.fails(NoughtLine, bare, line)
                continue
            made = self.call(bare, line)
            self.assertEqual(made[-1], Ratio(1))
            self.assertEqual(divided(line, made)[1], [])
            self.assertEqual(common(made, derived(made)), ratios([1]))
            # each factor of the line is one of its bare line: without these a number is left
            rest = told(line)
            while degree(common(rest, made)) > 0:
                rest = divided(rest, common(rest, made))[0]
            self.assertEqual(degree(rest), 0)

    def test_bare_told(self):
        cases = [([3], [1]), ([Ratio(-1, 2), 0, 0], [1]), ([0, 5], [0, 1]), ([0, 0, 0, 2], [0, 1]),
                 ([12, 12, 3], [2, 1]), ([1, 2, 1], [1, 1]), ([-1, 0, 1], [-1, 0, 1]),
                 ([0, 0, -2, 0, 2], [0, -1, 0, 1]), ([1, 0, 2, 0, 1], [1, 0, 1]), ([4, 0, 4, 0, 1], [2, 0, 1])]
        for line, wanted in cases:
            self.assertEqual(bare(line), ratios(wanted))
        cube = times(times([1, 1], [1, 1]), times([1, 1], [-2, 1]))
        self.assertEqual(bare(cube), ratios([-2, -1, 1]))
        self.assertEqual(bare(times(cube, times(cube, cube))), ratios([-2, -1, 1]))


class WrongLines(Case):
    def test_state_is_told_last(self):
        long = [1] * 17
        self.fails(InvalidLine, times, long, [1] * 18, value=[1] * 18)
        self.fails(InvalidLine, divided, [True], [0], value=[True])
        self.fails(InvalidLine, bare, [0, None], value=[0, None])
        for value in KINDS:
            if not support.is_numbers(value, 0, 17):
                self.fails(InvalidLine, divided, value, [0], value=value)
                self.fails(InvalidLine, times, long, value, value=value)


if __name__ == "__main__":
    unittest.main()
