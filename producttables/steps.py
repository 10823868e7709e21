"""Grids: their steps, what is made of them, what they kill, join and share."""

from producttables.checks import MOST_WIDE, grid_from, need_grid, need_many, numbers_from
from producttables.errors import InvalidRow, UnlikeWidths
from producttables.rowwork import amounts_of, killed_by, reduced, shared_by


def is_grid(value):
    """Whether any value is a grid."""
    return grid_from(value) is not None


def steps(grid):
    """The one grid in steps that makes the same lists."""
    return reduced(need_grid(grid))


def rank(grid):
    """How many rows the steps of the grid have."""
    return len(steps(grid))


def made_of(grid, row):
    """Numbers by which the row is made of the rows of the grid; None if it is not."""
    rows = need_grid(grid)
    least, most = (len(rows[0]), len(rows[0])) if rows else (1, MOST_WIDE)
    numbers = numbers_from(row, least, most)
    if numbers is None:
        raise InvalidRow(row)
    return amounts_of(rows, numbers)


def killed(grid, wide):
    """The steps of all lists of this width that the grid kills."""
    rows = need_grid(grid)
    need_many(wide, 1, MOST_WIDE)
    if rows and len(rows[0]) != wide:
        raise UnlikeWidths()
    return killed_by(rows, wide)


def two_grids(grid, other):
    """Both grids, of one width where both have rows."""
    rows, others = need_grid(grid), need_grid(other)
    if rows and others and len(rows[0]) != len(others[0]):
        raise UnlikeWidths()
    return rows, others


def joined(grid, other):
    """The steps of all sums of what the one and what the other grid makes."""
    rows, others = two_grids(grid, other)
    return reduced(rows + others)


def shared(grid, other):
    """The steps of what both grids make."""
    rows, others = two_grids(grid, other)
    if not rows:
        return []
    return shared_by(rows, others, len(rows[0]))
