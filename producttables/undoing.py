"""What undoes mixtures or is killed by them, what commutes with them, own squares."""

from producttables.checks import need_mixtures, numbers_from
from producttables.errors import NoOne
from producttables.partwork import commuting_part
from producttables.products import left_rows, one_of, product_of
from producttables.rowwork import amounts_of, is_nought_row, killed_by, turned_about
from producttables.tables import need_table, rows_and_mixture


def undone(table, mixture):
    """The mixture that undoes this one; None if there is none."""
    rows, amounts = rows_and_mixture(table, mixture)
    unchanging = one_of(rows)
    if unchanging is None:
        raise NoOne()
    # what makes the one from one side makes it from the other one, too [26]
    return amounts_of(left_rows(rows, amounts), unchanging)


def killer(table, mixture):
    """A mixture, not nought, that this one times it makes nought; None if there is none."""
    rows, amounts = rows_and_mixture(table, mixture)
    found = killed_by(turned_about(left_rows(rows, amounts)), len(rows))
    return found[0] if found else None


def is_killer(table, mixture, value):
    """Whether any value is a killer of the mixture."""
    rows, amounts = rows_and_mixture(table, mixture)
    other = numbers_from(value, len(rows), len(rows))
    if other is None or is_nought_row(other):
        return False
    return is_nought_row(product_of(rows, amounts, other))


def commuting(table, mixtures):
    """The part, told, of what commutes with all of the mixtures."""
    need_table(table)
    others = need_mixtures(table.size, mixtures)
    return commuting_part(table.rows(), others)


def is_own_square(table, value):
    """Whether any value is a mixture of the table that times itself is itself."""
    need_table(table)
    mixture = numbers_from(value, table.size, table.size)
    if mixture is None:
        return False
    return product_of(table.rows(), mixture, mixture) == mixture
