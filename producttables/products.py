"""Products by the rows of a table. Nothing is checked here: mixtures are lists of Ratios."""

from producttables.basics import is_list
from producttables.checks import MOST_THINGS, rows_from
from producttables.ratios import Ratio
from producttables.rowwork import (
    amounts_of, combined, dotted, row_plus, row_scaled, turned_about, unit_rows, without_bottoms,
)


def table_rows_from(value):
    """The value as rows of a table, good or not; None unless it has their form."""
    if not is_list(value) or not 1 <= len(value) <= MOST_THINGS:
        return None
    size = len(value)
    rows = []
    for row in value:
        mixtures = rows_from(row, size, size, size)
        if mixtures is None or len(mixtures) != size:
            return None
        rows.append(mixtures)
    return rows


def whole_products(rows):
    """The rows, all times one number that makes all of them INTEGERS."""
    size = len(rows)
    amounts = without_bottoms([number for row in rows for mixture in row for number in mixture])
    mixtures = [amounts[at:at + size] for at in range(0, len(amounts), size)]
    return [mixtures[at:at + size] for at in range(0, len(mixtures), size)]


def whole_combined(amounts, rows):
    """The sum of the rows of INTEGERS, each times its amount."""
    added = [0 for _ in amounts]
    for amount, row in zip(amounts, rows):
        if amount != 0:
            added = [number + amount * other for number, other in zip(added, row)]
    return added


def first_bad(rows):
    """The first places (i, j, k) at which brackets matter; None if there are none."""
    # the number by which all amounts were multiplied stands squared on both sides
    whole = whole_products(rows)
    columns = turned_about(whole)
    places = range(len(whole))
    for i in places:
        for j in places:
            for k in places:
                left = whole_combined(whole[i][j], columns[k])
                if left != whole_combined(whole[j][k], whole[i]):
                    return i, j, k
    return None


def product_of(rows, first, second):
    """The first mixture times the second one."""
    size = len(rows)
    places = [place for place in range(size) if first[place].sign != 0]
    made = [combined(second, rows[place], size) for place in places]
    return combined([first[place] for place in places], made, size)


def powers_of(rows, mixture, many):
    """The powers of the mixture, from the first one on, so many, at least one."""
    powers = [mixture]
    while len(powers) < many:
        powers.append(product_of(rows, powers[-1], mixture))
    return powers


def left_rows(rows, mixture):
    """The mixture times thing 0, times thing 1, and so on."""
    return [combined(mixture, column, len(rows)) for column in turned_about(rows)]


def right_rows(rows, mixture):
    """Thing 0, thing 1 and so on times the mixture."""
    return [combined(mixture, row, len(rows)) for row in rows]


def thing_traces(rows):
    """The traces of the things."""
    traces = []
    for row in rows:
        traces.append(Ratio.total([mixture[place] for place, mixture in enumerate(row)]))
    return traces


def trace_of(rows, mixture):
    """The trace of the mixture."""
    return dotted(mixture, thing_traces(rows))


def one_of(rows):
    """The one of the table; None if it has none."""
    # the one is told by the amounts that make all things of what each thing
    # makes with all things, from either side
    made = []
    for place, row in enumerate(rows):
        ahead = [number for mixture in row for number in mixture]
        behind = [number for each in rows for number in each[place]]
        made.append(ahead + behind)
    things = [number for thing in unit_rows(len(rows)) for number in thing]
    return amounts_of(made, things + things)


def line_made(rows, line, mixture, unchanging):
    """What a told line comes to at the mixture; the one of the table is wanted unless c0 is 0."""
    made = combined(line[1:], powers_of(rows, mixture, len(line) - 1), len(rows))
    if not line or line[0].sign == 0:
        return made
    return row_plus(row_scaled(unchanging, line[0]), made)


def least_line_of(rows, mixture, unchanging):
    """The line of the least degree, its head 1, that is nought at the mixture; without a one None is passed for it."""
    # without a one c0 is 0, and only powers from the first one on are looked at
    lowest = [Ratio(0)] if unchanging is None else []
    ahead = [] if unchanging is None else [unchanging]
    made = mixture
    told = amounts_of(ahead, made)
    while told is None:
        ahead.append(made)
        made = product_of(rows, made, mixture)
        told = amounts_of(ahead, made)
    return lowest + [-number for number in told] + [Ratio(1)]
