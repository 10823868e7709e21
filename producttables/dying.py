"""What dies in every company, partners of what lives, and papers of what dies."""

from producttables.basics import is_within
from producttables.checks import numbers_from, part_from
from producttables.deadwork import dying_part, least_nothing, traces_beside
from producttables.parts import MOST_POWER
from producttables.partwork import is_side_part, part_raised
from producttables.rowwork import dotted, is_nought_row, makes_all, unit_row
from producttables.tables import need_table, rows_and_mixture


def dying(table):
    """The dying part, told."""
    need_table(table)
    return dying_part(table.rows())


def dying_power(table):
    """The least number by which the power of the dying part is nothing."""
    need_table(table)
    rows = table.rows()
    return least_nothing(rows, dying_part(rows))


def dies(table, mixture):
    """Whether the mixture dies: its trace with each mixture is 0."""
    rows, amounts = rows_and_mixture(table, mixture)
    return is_nought_row(traces_beside(rows, amounts))


def partner(table, mixture):
    """A mixture with which this one has a trace that is not 0; None if this one dies."""
    rows, amounts = rows_and_mixture(table, mixture)
    for place, told in enumerate(traces_beside(rows, amounts)):
        if told.sign != 0:
            return unit_row(len(rows), place)
    return None


def is_partner(table, mixture, value):
    """Whether any value is a partner of the mixture."""
    rows, amounts = rows_and_mixture(table, mixture)
    other = numbers_from(value, len(rows), len(rows))
    if other is None:
        return False
    return dotted(other, traces_beside(rows, amounts)).sign != 0


def dying_paper(table, mixture):
    """The dying part with its power that is nothing; None if the mixture lives."""
    rows, amounts = rows_and_mixture(table, mixture)
    if not is_nought_row(traces_beside(rows, amounts)):
        return None
    part = dying_part(rows)
    return part, least_nothing(rows, part)


def is_dying_paper(table, mixture, value):
    """Whether any value is a side part with a power that is nothing, of which the mixture is made."""
    rows, amounts = rows_and_mixture(table, mixture)
    if not isinstance(value, tuple) or len(value) != 2:
        return False
    part, many = part_from(len(rows), value[0]), value[1]
    if part is None or not is_within(many, 1, MOST_POWER):
        return False
    if not makes_all(part, [amounts]) or not is_side_part(rows, part):
        return False
    return part_raised(rows, part, many) == []
