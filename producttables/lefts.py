"""Left and right tables of mixtures, their traces and full lines."""

from producttables.products import left_rows, powers_of, right_rows, trace_of
from producttables.ratios import Ratio
from producttables.rowwork import dotted
from producttables.tables import rows_and_mixture


def left_table(table, mixture):
    """The mixture times thing 0, times thing 1, and so on."""
    rows, amounts = rows_and_mixture(table, mixture)
    return left_rows(rows, amounts)


def right_table(table, mixture):
    """Thing 0, thing 1 and so on times the mixture."""
    rows, amounts = rows_and_mixture(table, mixture)
    return right_rows(rows, amounts)


def trace(table, mixture):
    """The sum of the numbers on the middle line of the left table."""
    rows, amounts = rows_and_mixture(table, mixture)
    return trace_of(rows, amounts)


def full_line(table, mixture):
    """The determinant of t on the middle line less the left table, as a line."""
    rows, amounts = rows_and_mixture(table, mixture)
    traces = [trace_of(rows, made) for made in powers_of(rows, amounts, len(rows))]
    # Newton: from the head down, each number by the numbers ahead of it and the traces
    falling = [Ratio(1)]
    for many in range(1, len(rows) + 1):
        made = dotted(falling, traces[:many][::-1])
        falling.append(-made.over(many))
    return falling[::-1]
