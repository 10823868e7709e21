"""Into which blocks a table falls in which nothing dies; squares that are nought."""

from producttables.checks import MOST_THINGS, numbers_from, rows_from
from producttables.deadwork import dying_part
from producttables.livework import are_apart
from producttables.middle import living_rows
from producttables.middlework import is_one_block, parting_of
from producttables.partwork import middle_part
from producttables.products import left_rows, one_of, product_of
from producttables.ratios import Ratio
from producttables.rowwork import combined, is_nought_row, makes_all, reduced
from producttables.tables import need_table


def parting(table):
    """The least own squares of the middle, rising."""
    return parting_of(living_rows(table))


def block_of(rows, square):
    """The steps of what the own square makes with all mixtures."""
    return reduced(left_rows(rows, square))


def blocks(table):
    """The blocks of the own squares of the parting, told parts."""
    rows = living_rows(table)
    return [block_of(rows, square) for square in parting_of(rows)]


def block_sizes(table):
    """For each block the tuple of its size and the size of its middle."""
    rows = living_rows(table)
    part = middle_part(rows)
    found = []
    for square in parting_of(rows):
        inside = reduced([product_of(rows, square, mixture) for mixture in part])
        found.append((len(block_of(rows, square)), len(inside)))
    return found


def is_simple(table):
    """Whether nothing dies in the table, and it has just one block."""
    need_table(table)
    rows = table.rows()
    return not dying_part(rows) and is_one_block(rows)


def is_parting(table, value):
    """Whether any value is a list of own squares of the middle, not nought, apart, whose sum is the one."""
    need_table(table)
    rows, size = table.rows(), table.size
    squares = rows_from(value, MOST_THINGS, size, size)
    if not squares or any([is_nought_row(square) for square in squares]):
        return False
    if combined([Ratio(1) for _ in squares], squares, size) != one_of(rows):
        return False
    return makes_all(middle_part(rows), squares) and are_apart(rows, squares)


def square_zero(table, value):
    """Whether any value is a mixture, not nought, whose square is nought."""
    need_table(table)
    mixture = numbers_from(value, table.size, table.size)
    if mixture is None or is_nought_row(mixture):
        return False
    return is_nought_row(product_of(table.rows(), mixture, mixture))
