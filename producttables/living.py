"""Living parts, the halves of mixtures, and what mixtures of the quotient are lifted to."""

from producttables.checks import need_mixture, numbers_from, part_from
from producttables.deadwork import dying_part
from producttables.errors import InvalidMixture, NotLiving
from producttables.livework import halves_of, is_living_part, lifted_along, living_part
from producttables.tables import need_table, rows_and_part


def living(table):
    """A living part, told."""
    need_table(table)
    return living_part(table.rows())


def is_living(table, value):
    """Whether any value is a living part of the table."""
    need_table(table)
    part = part_from(table.size, value)
    return part is not None and is_living_part(table.rows(), part)


def need_living(rows, part):
    """Nothing, if the part is living."""
    if not is_living_part(rows, part):
        raise NotLiving()


def halves(table, part, mixture):
    """The living half and the dying half of the mixture."""
    rows, mixtures = rows_and_part(table, part)
    amounts = need_mixture(table.size, mixture)
    need_living(rows, mixtures)
    return halves_of(mixtures, dying_part(rows), amounts)


def lift(table, part, mixture):
    """The mixture of the living part that the quotient by the dying part tells as this one."""
    rows, mixtures = rows_and_part(table, part)
    dead = dying_part(rows)
    size = len(rows) - len(dead)
    amounts = numbers_from(mixture, size, size)
    if amounts is None:
        raise InvalidMixture(mixture)
    need_living(rows, mixtures)
    return lifted_along(dead, mixtures, amounts, len(rows))
