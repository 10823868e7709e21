"""Turnings by the one and a mixture that dies, between living parts."""

from producttables.checks import need_mixture, need_part, numbers_from
from producttables.deadwork import traces_beside
from producttables.errors import NotDying
from producttables.living import need_living
from producttables.livework import turned_steps, turning_of
from producttables.rowwork import is_nought_row, reduced
from producttables.tables import rows_and_part


def two_living(table, part, other):
    """The rows of a Table and two living parts of it."""
    rows, first = rows_and_part(table, part)
    second = need_part(table.size, other)
    need_living(rows, first)
    need_living(rows, second)
    return rows, first, second


def turning(table, part, other):
    """A mixture that dies by which the living part, turned, is the other one."""
    rows, first, second = two_living(table, part, other)
    return turning_of(rows, first, second)


def is_turning(table, part, other, value):
    """Whether any value is a mixture that dies by which the living part, turned, is the other one."""
    rows, first, second = two_living(table, part, other)
    mixture = numbers_from(value, len(rows), len(rows))
    if mixture is None or not is_nought_row(traces_beside(rows, mixture)):
        return False
    return turned_steps(rows, first, mixture) == reduced(second)


def turned_part(table, part, mixture):
    """The living part turned by a mixture that dies, told."""
    rows, first = rows_and_part(table, part)
    dead = need_mixture(table.size, mixture)
    need_living(rows, first)
    if not is_nought_row(traces_beside(rows, dead)):
        raise NotDying()
    return turned_steps(rows, first, dead)
