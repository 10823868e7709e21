"""Parts of a table by its rows. Nothing is checked here: parts are lists of mixtures of Ratios."""

from producttables.products import left_rows, product_of, right_rows
from producttables.rowwork import amounts_of, combined, free_places, head_place, makes_all, reduced, row_minus


def rows_within(rows, part):
    """For each two mixtures of the part the amounts that make their product; None if some has none."""
    told = []
    for first in part:
        row = [amounts_of(part, product_of(rows, first, second)) for second in part]
        if None in row:
            return None
        told.append(row)
    return told


def is_side_part(rows, part):
    """Whether products of any mixture with the mixtures of the part, on either side, are made of it."""
    made = []
    for mixture in part:
        made.extend(left_rows(rows, mixture))
        made.extend(right_rows(rows, mixture))
    return makes_all(part, made)


def led(steps, mixture):
    """The mixture as the quotient by the steps of a side part tells it."""
    wide = len(mixture)
    amounts = [mixture[head_place(row)] for row in steps]
    left = row_minus(mixture, combined(amounts, steps, wide))
    return [left[place] for place in free_places(steps, wide)]


def rows_behind(rows, part):
    """The rows of the quotient by a side part."""
    steps = reduced(part)
    places = free_places(steps, len(rows))
    return [[led(steps, rows[i][j]) for j in places] for i in places]
