"""Parts of tables: what is made of them, closed parts, side parts, products, least parts."""

from producttables.checks import need_many, need_mixture, need_mixtures, need_part, part_from
from producttables.partwork import (
    is_closed_part, is_side_part, least_closed, least_side, part_product, part_raised,
)
from producttables.rowwork import makes_all, reduced
from producttables.tables import need_table, rows_and_part

MOST_POWER = 9


def is_part(table, value):
    """Whether any value is a part of the table."""
    need_table(table)
    return part_from(table.size, value) is not None


def told_part(table, part):
    """The steps of the part."""
    _, mixtures = rows_and_part(table, part)
    return reduced(mixtures)


def is_made(table, part, mixture):
    """Whether the mixture is made of the part."""
    _, mixtures = rows_and_part(table, part)
    return makes_all(mixtures, [need_mixture(table.size, mixture)])


def is_closed(table, part):
    """Whether products of two mixtures of the part are made of it."""
    rows, mixtures = rows_and_part(table, part)
    return is_closed_part(rows, mixtures)


def is_side(table, part):
    """Whether products of mixtures of the part with any mixture, on either side, are made of it."""
    rows, mixtures = rows_and_part(table, part)
    return is_side_part(rows, mixtures)


def part_times(table, part, other):
    """What all products of a mixture of the one and a mixture of the other part make, told."""
    rows, first = rows_and_part(table, part)
    return part_product(rows, first, need_part(table.size, other))


def part_power(table, part, many):
    """The part times itself, so many of them in a row, told."""
    rows, mixtures = rows_and_part(table, part)
    need_many(many, 1, MOST_POWER)
    return part_raised(rows, mixtures, many)


def closed_of(table, mixtures):
    """The least closed part that makes all of the mixtures, told."""
    need_table(table)
    return least_closed(table.rows(), need_mixtures(table.size, mixtures))


def side_of(table, mixtures):
    """The least side part that makes all of the mixtures, told."""
    need_table(table)
    return least_side(table.rows(), need_mixtures(table.size, mixtures))
