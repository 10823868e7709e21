"""Partners of the things of a table in which nothing dies."""

from producttables.livework import partner_rows
from producttables.middle import living_rows


def partners(table):
    """For each thing the mixture with which it has the trace 1, and all other things the trace 0."""
    return partner_rows(living_rows(table))
