"""Tables of products, and the mixtures that they make."""

from producttables.basics import is_within
from producttables.checks import need_many, need_mixture, need_part
from producttables.errors import InvalidPlace, InvalidRows, InvalidTable, NotGood
from producttables.products import first_bad, one_of, powers_of, product_of, table_rows_from
from producttables.ratios import as_ratio
from producttables.rowwork import row_plus, row_scaled, unit_row

MOST_POWER = 30


class Table:
    """What each two of up to eight things make; it never changes."""

    def __init__(self, rows):
        products = need_rows(rows)
        places = first_bad(products)
        if places is not None:
            raise NotGood(places)
        self._products = products

    @property
    def size(self):
        """How many things there are."""
        return len(self._products)

    def rows(self):
        """For each thing the list of the mixtures that it makes with each thing."""
        return [[list(mixture) for mixture in row] for row in self._products]

    def thing(self, place):
        """A thing as a mixture."""
        if not is_within(place, 0, self.size - 1):
            raise InvalidPlace(place)
        return unit_row(self.size, place)

    def __eq__(self, other):
        return isinstance(other, Table) and self._products == other._products

    def __repr__(self):
        return f"Table({self._products!r})"


def need_rows(value):
    """Rows of a table, good or not."""
    rows = table_rows_from(value)
    if rows is None:
        raise InvalidRows(value)
    return rows


def need_table(value):
    """Nothing, if the value is a Table."""
    if not isinstance(value, Table):
        raise InvalidTable(value)


def rows_and_mixture(table, mixture):
    """The rows of a Table, and the amounts of a mixture of it."""
    need_table(table)
    return table.rows(), need_mixture(table.size, mixture)


def rows_and_part(table, part):
    """The rows of a Table, and the mixtures of a part of it, as they stand."""
    need_table(table)
    return table.rows(), need_part(table.size, part)


def bad_places(rows):
    """The first places (i, j, k) at which brackets matter; None if there are none."""
    return first_bad(need_rows(rows))


def times(table, mixture, other):
    """The one mixture times the other one."""
    rows, first = rows_and_mixture(table, mixture)
    return product_of(rows, first, need_mixture(table.size, other))


def added(table, mixture, other):
    """The sum of both mixtures."""
    _, first = rows_and_mixture(table, mixture)
    return row_plus(first, need_mixture(table.size, other))


def scaled(table, mixture, number):
    """The mixture, multiplied by the number."""
    _, amounts = rows_and_mixture(table, mixture)
    return row_scaled(amounts, as_ratio(number))


def power(table, mixture, many):
    """The mixture times itself, so many of them in a row."""
    rows, amounts = rows_and_mixture(table, mixture)
    need_many(many, 1, MOST_POWER)
    return powers_of(rows, amounts, many)[-1]


def one(table):
    """The mixture that changes nothing from either side; None if there is none."""
    need_table(table)
    return one_of(table.rows())


def is_commuting(table):
    """Whether each two things make the same in either sequence."""
    need_table(table)
    rows = table.rows()
    for i in range(table.size):
        for j in range(i):
            if rows[i][j] != rows[j][i]:
                return False
    return True
