"""Lines at mixtures, least lines, and what powers make."""

from producttables.checks import need_line, need_mixture
from producttables.errors import NoOne
from producttables.linework import trimmed
from producttables.products import one_of, powers_of, product_of
from producttables.ratios import Ratio
from producttables.rowwork import amounts_of, combined, is_nought_row, reduced, row_plus, row_scaled
from producttables.tables import need_table, rows_and_mixture


def line_at(table, line, mixture):
    """What the line comes to with the mixture for t."""
    need_table(table)
    numbers = trimmed(need_line(line))
    amounts = need_mixture(table.size, mixture)
    rows = table.rows()
    made = combined(numbers[1:], powers_of(rows, amounts, len(numbers) - 1), table.size)
    if not numbers or numbers[0].sign == 0:
        return made
    unchanging = one_of(rows)
    if unchanging is None:
        raise NoOne()
    return row_plus(row_scaled(unchanging, numbers[0]), made)


def least_line(table, mixture):
    """The line of the least degree, its head 1, that is nought at the mixture."""
    rows, amounts = rows_and_mixture(table, mixture)
    unchanging = one_of(rows)
    # without a one c0 is 0, and only powers from the first one on are looked at
    lowest = [Ratio(0)] if unchanging is None else []
    ahead = [] if unchanging is None else [unchanging]
    made = amounts
    told = amounts_of(ahead, made)
    while told is None:
        ahead.append(made)
        made = product_of(rows, made, amounts)
        told = amounts_of(ahead, made)
    return lowest + [-number for number in told] + [Ratio(1)]


def powers_part(table, mixture):
    """The part, told, that the powers of the mixture make."""
    rows, amounts = rows_and_mixture(table, mixture)
    return reduced(powers_of(rows, amounts, len(rows)))


def nothing_power(table, mixture):
    """The least number of a power that is nought; None if none is."""
    rows, amounts = rows_and_mixture(table, mixture)
    for place, made in enumerate(powers_of(rows, amounts, len(rows) + 1)):
        if is_nought_row(made):
            return place + 1
    return None
