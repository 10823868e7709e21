"""[2] INTEGER, COUNT, NUMBER; [11] Ratio."""

import itertools
import unittest
from fractions import Fraction

from producttables.basics import is_count, is_integer
from producttables.errors import DividedByZero, InvalidNumber
from producttables.ratios import Ratio, is_number
from support import KINDS, Case, Strange, plain
import support

GREAT = 123456789012345678901234567890 ** 40
TOPS = [0, 1, -1, 2, -3, 7, 12, -12, 10 ** 20, GREAT]
BOTTOMS = [1, 2, -2, 3, 7, -12, 30, 10 ** 20 + 1, GREAT + 1]


def some():
    return [Ratio(top, bottom) for top, bottom in itertools.product(TOPS, BOTTOMS)]


class Kinds(Case):
    def test_any_value(self):
        self.tells(is_integer, support.is_integer)
        self.tells(is_count, lambda value: support.is_integer(value) and value >= 0)
        self.tells(is_number, support.is_number)

    def test_truths_and_edges(self):
        for function in (is_integer, is_count, is_number):
            self.assertIs(function(True), False)
            self.assertIs(function(value=False), False)
            self.assertIs(function(0), True)
        self.assertIs(is_integer(-1), True)
        self.assertIs(is_count(-1), False)
        self.assertIs(is_integer(Ratio(1)), False)
        self.assertIs(is_count(Ratio(1)), False)
        self.assertIs(is_number(Ratio(1)), True)


class Made(Case):
    def test_lowest_terms(self):
        for top, bottom in itertools.product(TOPS, BOTTOMS):
            made, wanted = Ratio(top, bottom), Fraction(top, bottom)
            self.assertEqual((made.top, made.bottom), (wanted.numerator, wanted.denominator))
            self.assertIs(type(made.top), int)
            self.assertIs(type(made.bottom), int)
            self.assertEqual(made.sign, (wanted > 0) - (wanted < 0))
            self.assertIs(type(made.sign), int)
            self.assertIs(made.is_whole, wanted.denominator == 1)

    def test_names_and_defaults(self):
        self.assertEqual(Ratio(top=4, bottom=6), Ratio(2, 3))
        self.assertEqual(Ratio(5), Ratio(5, 1))
        self.assertEqual((Ratio(0, -5).top, Ratio(0, -5).bottom), (0, 1))

    def test_wrong(self):
        for value in KINDS:
            if support.is_integer(value):
                continue
            self.fails(InvalidNumber, Ratio, value, value=value)
            self.fails(InvalidNumber, Ratio, value, 0, value=value)
            self.fails(InvalidNumber, Ratio, value, None, value=value)
            self.fails(InvalidNumber, Ratio, 3, value, value=value)
        self.fails(InvalidNumber, Ratio, 1, 0, value=0)
        self.fails(InvalidNumber, Ratio, 0, 0, value=0)
        self.fails(InvalidNumber, Ratio, Ratio(1), 2, value=Ratio(1))

    def test_never_changes(self):
        made = Ratio(1, 2)
        for name in ("top", "bottom", "sign", "is_whole"):
            with self.assertRaises(AttributeError):
                setattr(made, name, 3)


class Reckoned(Case):
    def check(self, made, wanted):
        self.assertIs(type(made), Ratio)
        self.assertEqual((made.top, made.bottom), (wanted.numerator, wanted.denominator))

    def test_two(self):
        for left, right in itertools.product(some()[::4], some()[::5]):
            first, second = plain(left), plain(right)
            self.check(left + right, first + second)
            self.check(left - right, first - second)
            self.check(left * right, first * second)
            self.assertIs(left.is_below(right), first < second)
            self.assertIs(left.is_at_most(right), first <= second)
            self.assertIs(left == right, first == second)
            self.assertIs(left != right, first != second)
            if second:
                self.check(left.over(right), first / second)
                self.check(left.over(other=right), first / second)

    def test_integers_on_either_side(self):
        for left, right in itertools.product(some()[::3], [0, 1, -1, 5, -12, 10 ** 25]):
            first = plain(left)
            self.check(left + right, first + right)
            self.check(right + left, right + first)
            self.check(left - right, first - right)
            self.check(right - left, right - first)
            self.check(left * right, first * right)
            self.check(right * left, right * first)
            self.assertIs(left.is_below(right), first < right)
            self.assertIs(left.is_at_most(other=right), first <= right)
            if right:
                self.check(left.over(right), first / right)

    def test_one(self):
        for made in some():
            self.check(-made, -plain(made))
            self.check(made.unsigned(), abs(plain(made)))

    def test_bounds(self):
        self.assertIs(Ratio(1, 2).is_below(Ratio(1, 2)), False)
        self.assertIs(Ratio(1, 2).is_at_most(Ratio(1, 2)), True)
        self.assertIs(Ratio(-1, 2).is_below(other=0), True)

    def test_nothing_is_divided_by_nought(self):
        for nought in (0, Ratio(0), Ratio(0, 7)):
            self.fails(DividedByZero, Ratio(1, 2).over, nought)
            self.fails(DividedByZero, Ratio(0).over, nought)

    def test_wrong(self):
        made = Ratio(1, 2)
        ways = [made.over, made.is_below, made.is_at_most, lambda value: made + value,
                lambda value: made - value, lambda value: made * value]
        for value in KINDS:
            if not support.is_number(value):
                for way in ways:
                    self.fails(InvalidNumber, way, value, value=value)

    def test_operands_stay(self):
        left, right = Ratio(1, 2), Ratio(-3, 4)
        for _ in range(2):
            self.assertEqual([left + right, left * 2, 1 - right, -left],
                             [Ratio(-1, 4), Ratio(1), Ratio(7, 4), Ratio(-1, 2)])
        self.assertEqual((left.top, left.bottom, right.top, right.bottom), (1, 2, -3, 4))


class Totals(Case):
    def test_sums(self):
        self.assertEqual(self.call(Ratio.total, []), Ratio(0))
        self.assertIs(type(Ratio.total([])), Ratio)
        self.assertEqual(self.call(Ratio.total, [3]), Ratio(3))
        self.assertEqual(self.call(Ratio.total, [1, Ratio(1, 2), Ratio(-3, 4), 10 ** 20]),
                         Ratio(4 * 10 ** 20 + 3, 4))
        self.assertEqual(Ratio.total(numbers=(Ratio(1, 3), Ratio(2, 3))), Ratio(1))

    def test_wrong(self):
        for value in KINDS:
            if type(value) not in (list, tuple):
                self.fails(InvalidNumber, Ratio.total, value, value=value)
            if not support.is_number(value):
                self.fails(InvalidNumber, Ratio.total, [1, value, "b"], value=value)
                self.fails(InvalidNumber, Ratio.total, (Ratio(1, 2), 0, value), value=value)


class Told(Case):
    def test_equal_with_ratios_alone(self):
        self.assertIs(Ratio(2, 4) == Ratio(1, 2), True)
        for value in KINDS + [2, Fraction(2), Strange()]:
            if not isinstance(value, Ratio):
                self.assertIs(Ratio(2) == value, False)
                self.assertIs(value == Ratio(2), False)
                self.assertIs(Ratio(2) != value, True)
        self.assertIs(Ratio(1) == True, False)  # noqa: E712
        self.assertIs(0 == Ratio(0), False)

    def test_texts(self):
        for top, bottom, text in [(3, 2, "3/2"), (-3, 2, "-3/2"), (6, 3, "2"), (0, 4, "0"), (5, -10, "-1/2"),
                                  (-8, 2, "-4"), (10 ** 30, 1, "1" + "0" * 30)]:
            self.assertEqual(str(Ratio(top, bottom)), text)
        self.assertEqual(repr(Ratio(3, 2)), "Ratio(3, 2)")
        self.assertEqual(repr(Ratio(4, -2)), "Ratio(-2, 1)")
        self.assertEqual(repr([Ratio(0, 5)]), "[Ratio(0, 1)]")


if __name__ == "__main__":
    unittest.main()
