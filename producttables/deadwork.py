"""What dies in a table, by its rows. Nothing is checked here."""

from producttables.partwork import part_product
from producttables.products import thing_traces
from producttables.rowwork import dotted, killed_by


def trace_grid(rows):
    """For each two things the trace of the one times the other one."""
    told = thing_traces(rows)
    return [[dotted(mixture, told) for mixture in row] for row in rows]


def traces_beside(rows, mixture):
    """The traces of the mixture times each thing."""
    return [dotted(mixture, row) for row in trace_grid(rows)]


def dying_part(rows):
    """The steps of the dying part."""
    return killed_by(trace_grid(rows), len(rows))


def least_nothing(rows, part):
    """The least number by which the power of a part is nothing, which there is."""
    made, many = part, 1
    while made:
        made = part_product(rows, made, part)
        many += 1
    return many
