"""What is passed, told as new lists of Ratios, or the error that belongs to it."""

from producttables.basics import is_list, is_within
from producttables.errors import (
    InvalidGrid, InvalidLine, InvalidMany, InvalidMixture, InvalidMixtures, InvalidPart,
)
from producttables.ratios import as_ratio, is_number
from producttables.rowwork import reduced

MOST_ROWS = 64
MOST_WIDE = 64
MOST_NUMBERS = 17
MOST_THINGS = 8


def numbers_from(value, least, most):
    """The value as a list of Ratios; None unless it is a list of so many NUMBERS."""
    if not is_list(value) or not least <= len(value) <= most:
        return None
    for number in value:
        if not is_number(number):
            return None
    return [as_ratio(number) for number in value]


def rows_from(value, most, least_wide, most_wide):
    """The value as rows of one width; None unless it is a list of such."""
    if not is_list(value) or len(value) > most:
        return None
    rows = []
    for row in value:
        numbers = numbers_from(row, least_wide, most_wide)
        if numbers is None or (rows and len(numbers) != len(rows[0])):
            return None
        rows.append(numbers)
    return rows


def grid_from(value):
    """The value as a grid; None unless it is one."""
    return rows_from(value, MOST_ROWS, 1, MOST_WIDE)


def part_from(size, value):
    """The value as a part of a table of this size, as it stands; None unless it is one."""
    rows = rows_from(value, size, size, size)
    if rows is None or len(reduced(rows)) != len(rows):
        return None
    return rows


def line_from(value):
    """The value as a line, as it stands; None unless it is one."""
    return numbers_from(value, 0, MOST_NUMBERS)


def need_many(value, least, most):
    """Nothing, if the value is a COUNT within these bounds."""
    if not is_within(value, least, most):
        raise InvalidMany(value)


def need_grid(value):
    """A grid of Ratios."""
    grid = grid_from(value)
    if grid is None:
        raise InvalidGrid(value)
    return grid


def need_line(value):
    """A line of Ratios, as it stands."""
    line = line_from(value)
    if line is None:
        raise InvalidLine(value)
    return line


def need_mixture(size, value):
    """A mixture of a table of this size."""
    mixture = numbers_from(value, size, size)
    if mixture is None:
        raise InvalidMixture(value)
    return mixture


def need_mixtures(size, value):
    """A list of mixtures of a table of this size."""
    mixtures = rows_from(value, MOST_THINGS, size, size)
    if mixtures is None:
        raise InvalidMixtures(value)
    return mixtures


def need_part(size, value):
    """A part of a table of this size, as it stands."""
    part = part_from(size, value)
    if part is None:
        raise InvalidPart(value)
    return part
