"""The traces of products of two things, and of two mixtures."""

from producttables.checks import need_mixture
from producttables.deadwork import trace_grid
from producttables.products import product_of, trace_of
from producttables.tables import need_table, rows_and_mixture


def traces(table):
    """The grid of the traces of each thing times each thing."""
    need_table(table)
    return trace_grid(table.rows())


def trace_with(table, mixture, other):
    """The trace of the mixture times the other one."""
    rows, first = rows_and_mixture(table, mixture)
    return trace_of(rows, product_of(rows, first, need_mixture(table.size, other)))
