"""Own squares of the quotient by the dying part, lifted to own squares of the table."""

from producttables.checks import MOST_THINGS, rows_from
from producttables.errors import InvalidMixtures
from producttables.livework import are_apart, quotient_of, squares_lifted
from producttables.partwork import led
from producttables.tables import need_table


def dead_and_squares(table, mixtures):
    """The steps of the dying part of a Table, and own squares, apart, of the quotient by it."""
    need_table(table)
    dead, quotient = quotient_of(table.rows())
    size = len(quotient)
    squares = rows_from(mixtures, MOST_THINGS, size, size)
    # where all dies, there is no mixture to be lifted
    if squares is None or (squares and size == 0) or not are_apart(quotient, squares):
        raise InvalidMixtures(mixtures)
    return dead, squares


def lifted(table, mixtures):
    """Own squares of the table, apart, each told in the quotient as the one at its place."""
    dead, squares = dead_and_squares(table, mixtures)
    return squares_lifted(table.rows(), dead, squares)


def is_lifted(table, mixtures, value):
    """Whether any value is a list of own squares, apart, each told in the quotient as the one at its place."""
    dead, squares = dead_and_squares(table, mixtures)
    found = rows_from(value, MOST_THINGS, table.size, table.size)
    if found is None or [led(dead, mixture) for mixture in found] != squares:
        return False
    return are_apart(table.rows(), found)
