"""Lines reckoned: sums, products, quotients, common parts, bare lines."""

from producttables.checks import MOST_NUMBERS, line_from, need_line
from producttables.errors import NoughtLine, TooMany
from producttables.linework import (
    line_bare, line_common, line_derived, line_divided, line_plus, line_scaled, line_times, line_worth, trimmed,
)
from producttables.ratios import as_ratio


def is_line(value):
    """Whether any value is a line: a list of 0 to 17 NUMBERS."""
    return line_from(value) is not None


def told(line):
    """The line without noughts at its end."""
    return trimmed(need_line(line))


def degree(line):
    """The place of the last number that is not 0, -1 of nought."""
    return len(told(line)) - 1


def plus(line, other):
    """The sum of both lines."""
    return line_plus(told(line), told(other))


def minus(line, other):
    """The line less the other one."""
    first, second = told(line), told(other)
    return line_plus(first, [-number for number in second])


def scaled(line, number):
    """The line, multiplied by the number."""
    first = told(line)
    return line_scaled(first, as_ratio(number))


def derived(line):
    """The line derived."""
    return line_derived(told(line))


def times(line, other):
    """The product of both lines."""
    first, second = told(line), told(other)
    # nought counts as of degree 0
    if max(len(first), 1) + max(len(second), 1) > MOST_NUMBERS + 1:
        raise TooMany("degree", MOST_NUMBERS - 1)
    return line_times(first, second)


def worth(line, number):
    """What the line comes to with the number for t."""
    first = told(line)
    return line_worth(first, as_ratio(number))


def divided(line, other):
    """The tuple of the quotient and the rest."""
    first, second = told(line), told(other)
    if not second:
        raise NoughtLine()
    return line_divided(first, second)


def common(line, other):
    """The common part of both lines."""
    first, second = told(line), told(other)
    return line_common(first, second)


def bare(line):
    """The bare line: the same factors, each once."""
    first = told(line)
    if not first:
        raise NoughtLine()
    return line_bare(first)
