"""The written forms of tables, grids and numbers."""

from producttables.checks import MOST_WIDE, grid_from, numbers_from
from producttables.errors import InvalidThing
from producttables.products import table_rows_from
from producttables.tables import Table
from producttables.wordwork import product_words, row_words


def as_text(lines):
    """The lines, each with a line feed at its end."""
    return "".join([line + "\n" for line in lines])


def table_lines(rows):
    """The lines of the rows of a table."""
    return ["table", f"size {len(rows)}"] + ["times " + words for words in product_words(rows)]


def written(thing):
    """The written form of a Table, rows, a grid or numbers."""
    rows = thing.rows() if isinstance(thing, Table) else table_rows_from(thing)
    grid, numbers = grid_from(thing), numbers_from(thing, 1, MOST_WIDE)
    if rows is not None:
        return as_text(table_lines(rows))
    if grid is not None:
        return as_text(["grid"] + ["row " + row_words(row) for row in grid])
    if numbers is not None:
        return as_text(["numbers " + row_words(numbers)])
    raise InvalidThing(thing)
