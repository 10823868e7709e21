"""Lines at mixtures, least lines, and what powers make."""

from producttables.checks import need_line, need_mixture
from producttables.errors import NoOne
from producttables.linework import trimmed
from producttables.products import least_line_of, line_made, one_of, powers_of
from producttables.rowwork import is_nought_row, reduced
from producttables.tables import need_table, rows_and_mixture


def line_at(table, line, mixture):
    """What the line comes to with the mixture for t."""
    need_table(table)
    numbers = trimmed(need_line(line))
    amounts = need_mixture(table.size, mixture)
    rows = table.rows()
    unchanging = one_of(rows)
    if unchanging is None and numbers and numbers[0].sign != 0:
        raise NoOne()
    return line_made(rows, numbers, amounts, unchanging)


def least_line(table, mixture):
    """The line of the least degree, its head 1, that is nought at the mixture."""
    rows, amounts = rows_and_mixture(table, mixture)
    return least_line_of(rows, amounts, one_of(rows))


def powers_part(table, mixture):
    """The part, told, that the powers of the mixture make."""
    rows, amounts = rows_and_mixture(table, mixture)
    return reduced(powers_of(rows, amounts, len(rows)))


def nothing_power(table, mixture):
    """The least number of a power that is nought; None if none is."""
    rows, amounts = rows_and_mixture(table, mixture)
    for place, made in enumerate(powers_of(rows, amounts, len(rows) + 1)):
        if is_nought_row(made):
            return place + 1
    return None
