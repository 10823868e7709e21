"""Tables made from others, from parts of them, or told by a few numbers."""

from producttables.checks import MOST_THINGS, line_from, need_many, need_mixture
from producttables.errors import (
    InvalidLine, InvalidNumber, NothingLeft, NotClosed, NotSide, NotWhole, TooMany,
)
from producttables.linework import monic, trimmed
from producttables.partwork import is_side_part, led, rows_behind, rows_within
from producttables.ratios import Ratio, as_ratio
from producttables.rowwork import (
    noughts_row, reduced, row_minus, row_scaled, turned_about, unit_row, unit_rows,
)
from producttables.tables import Table, need_table, rows_and_part

MOST_UPPER = 3
MOST_SQUARE = 2


def need_room_for(many):
    """Nothing, if a table may have so many things."""
    if many > MOST_THINGS:
        raise TooMany("things", MOST_THINGS)


def beside(table, other):
    """The table with its own things, then the other one's."""
    need_table(table)
    need_table(other)
    need_room_for(table.size + other.size)
    ahead, rest = noughts_row(table.size), noughts_row(other.size)
    nought = ahead + rest
    rows = []
    for row in table.rows():
        rows.append([mixture + rest for mixture in row] + [nought for _ in rest])
    for row in other.rows():
        rows.append([nought for _ in ahead] + [ahead + mixture for mixture in row])
    return Table(rows)


def pair_mixture(first, second):
    """For each amount of the first mixture its products with those of the second one."""
    return [left * right for left in first for right in second]


def crossed(table, other):
    """The table of all pairs of a thing of the one and a thing of the other one."""
    need_table(table)
    need_table(other)
    need_room_for(table.size * other.size)
    rows = []
    for row in table.rows():
        for other_row in other.rows():
            rows.append([pair_mixture(first, second) for first in row for second in other_row])
    return Table(rows)


def turned(table):
    """The table in which both things of each product have changed places."""
    need_table(table)
    return Table(turned_about(table.rows()))


def with_one(table):
    """The table with a one put in as thing 0."""
    need_table(table)
    many = table.size + 1
    need_room_for(many)
    things = unit_rows(many)
    rows = [things]
    for place, row in enumerate(table.rows()):
        rows.append([things[place + 1]] + [[Ratio(0)] + mixture for mixture in row])
    return Table(rows)


def in_letters(table, part):
    """The table of the mixtures of a part of as many mixtures as there are things."""
    rows, mixtures = rows_and_part(table, part)
    if len(mixtures) != table.size:
        raise NotWhole()
    return Table(rows_within(rows, mixtures))


def within(table, part):
    """The table of the mixtures of a closed part."""
    rows, mixtures = rows_and_part(table, part)
    told = rows_within(rows, mixtures)
    if told is None:
        raise NotClosed()
    if not told:
        raise NothingLeft()
    return Table(told)


def behind(table, part):
    """The quotient by a side part."""
    rows, mixtures = rows_and_part(table, part)
    if not is_side_part(rows, mixtures):
        raise NotSide()
    if len(mixtures) == table.size:
        raise NothingLeft()
    return Table(rows_behind(rows, mixtures))


def led_behind(table, part, mixture):
    """The mixture as the quotient by a side part tells it."""
    rows, mixtures = rows_and_part(table, part)
    amounts = need_mixture(table.size, mixture)
    if not is_side_part(rows, mixtures):
        raise NotSide()
    return led(reduced(mixtures), amounts)


def units_table(units):
    """The table of units (row, place), told sorted."""
    many = len(units)
    rows = []
    for i, j in units:
        row = []
        for k, m in units:
            row.append(unit_row(many, units.index((i, m))) if j == k else noughts_row(many))
        rows.append(row)
    return Table(rows)


def numbers_table(many):
    """The table of square tables of so many rows of numbers."""
    need_many(many, 1, MOST_SQUARE)
    return units_table([(i, j) for i in range(many) for j in range(many)])


def upper_table(many):
    """The table of square tables of so many rows with noughts below the middle line."""
    need_many(many, 1, MOST_UPPER)
    return units_table([(i, j) for i in range(many) for j in range(i, many)])


def line_table(line):
    """The table of the powers of t, a power of which is told by the line being nought."""
    numbers = line_from(line)
    if numbers is None or not 2 <= len(trimmed(numbers)) <= MOST_THINGS + 1:
        raise InvalidLine(line)
    told = monic(trimmed(numbers))
    size = len(told) - 1
    powers = [unit_row(size, 0)]
    for _ in range(2 * size - 2):
        last = powers[-1]
        # t to the power of the size is made by taking the line away
        powers.append(row_minus([Ratio(0)] + last[:-1], row_scaled(told[:size], last[-1])))
    return Table([powers[place:place + size] for place in range(size)])


def four_table(first, second):
    """The table of 1, i, j, k with i i and j j told, i j = k and j i = -k."""
    for number in (first, second):
        if as_ratio(number).sign == 0:
            raise InvalidNumber(number)
    a, b = as_ratio(first), as_ratio(second)
    # for each two letters the place of what they make, and how much of it
    told = [
        [(0, 1), (1, 1), (2, 1), (3, 1)],
        [(1, 1), (0, a), (3, 1), (2, a)],
        [(2, 1), (3, -1), (0, b), (1, -b)],
        [(3, 1), (2, -a), (1, b), (0, -(a * b))],
    ]
    return Table([[row_scaled(unit_row(4, place), amount) for place, amount in row] for row in told])


def noughts(size):
    """The table of so many things with only products that are nought."""
    need_many(size, 1, MOST_THINGS)
    return Table([[noughts_row(size)] * size] * size)
