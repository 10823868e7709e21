"""Fractions in lowest terms, reckoned exactly."""

from math import gcd

from producttables.basics import is_integer, is_list
from producttables.errors import DividedByZero, InvalidNumber


class Ratio:
    """A fraction in lowest terms, its bottom at least 1; it never changes."""

    def __init__(self, top, bottom=1):
        for value in (top, bottom):
            if not is_integer(value):
                raise InvalidNumber(value)
        if bottom == 0:
            raise InvalidNumber(bottom)
        shared = gcd(top, bottom)
        if bottom < 0:
            shared = -shared
        self._top = top // shared
        self._bottom = bottom // shared

    @property
    def top(self):
        """The INTEGER above the stroke."""
        return self._top

    @property
    def bottom(self):
        """The INTEGER below the stroke, at least 1."""
        return self._bottom

    @property
    def sign(self):
        """-1 below 0, 0 at 0, 1 above 0."""
        if self._top == 0:
            return 0
        return 1 if self._top > 0 else -1

    @property
    def is_whole(self):
        """Whether the bottom is 1."""
        return self._bottom == 1

    def __add__(self, other):
        right = as_ratio(other)
        top = self._top * right.bottom + right.top * self._bottom
        return Ratio(top, self._bottom * right.bottom)

    def __radd__(self, other):
        return self + other

    def __sub__(self, other):
        right = as_ratio(other)
        top = self._top * right.bottom - right.top * self._bottom
        return Ratio(top, self._bottom * right.bottom)

    def __rsub__(self, other):
        return as_ratio(other) - self

    def __mul__(self, other):
        right = as_ratio(other)
        return Ratio(self._top * right.top, self._bottom * right.bottom)

    def __rmul__(self, other):
        return self * other

    def __neg__(self):
        return Ratio(-self._top, self._bottom)

    def over(self, other):
        """This number divided by another NUMBER."""
        right = as_ratio(other)
        if right.top == 0:
            raise DividedByZero()
        return Ratio(self._top * right.bottom, self._bottom * right.top)

    def unsigned(self):
        """This number without its sign."""
        return Ratio(abs(self._top), self._bottom)

    def is_below(self, other):
        """Whether this number is less than another NUMBER."""
        right = as_ratio(other)
        return self._top * right.bottom < right.top * self._bottom

    def is_at_most(self, other):
        """Whether this number is not greater than another NUMBER."""
        right = as_ratio(other)
        return self._top * right.bottom <= right.top * self._bottom

    @classmethod
    def total(cls, numbers):
        """The sum of a list of NUMBERS, 0 of none."""
        if not is_list(numbers):
            raise InvalidNumber(numbers)
        added = cls(0)
        for number in numbers:
            added = added + number
        return added

    def __eq__(self, other):
        return isinstance(other, Ratio) and self._top == other._top and self._bottom == other._bottom

    def __str__(self):
        if self._bottom == 1:
            return str(self._top)
        return f"{self._top}/{self._bottom}"

    def __repr__(self):
        return f"Ratio({self._top}, {self._bottom})"


def is_number(value):
    """Whether any value is a NUMBER: an INTEGER or a Ratio."""
    return is_integer(value) or isinstance(value, Ratio)


def as_ratio(number):
    """A NUMBER as a Ratio; the error of Ratio for any other value."""
    if isinstance(number, Ratio):
        return number
    return Ratio(number)
