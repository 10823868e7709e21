"""The middle of tables: what makes the same with each mixture in either sequence."""

from producttables.deadwork import dying_part
from producttables.errors import Dying
from producttables.middlework import full_one_of
from producttables.partwork import middle_part
from producttables.rowwork import makes_all
from producttables.tables import need_table, rows_and_mixture


def middle(table):
    """The middle, a told part."""
    need_table(table)
    return middle_part(table.rows())


def is_middle(table, mixture):
    """Whether the mixture is made of the middle."""
    rows, amounts = rows_and_mixture(table, mixture)
    return makes_all(middle_part(rows), [amounts])


def living_rows(table):
    """The rows of a Table in which nothing dies."""
    need_table(table)
    rows = table.rows()
    if dying_part(rows):
        raise Dying()
    return rows


def full_one(table):
    """A mixture of the middle whose least line is of as great a degree as the middle has size, and this line."""
    return full_one_of(living_rows(table))
