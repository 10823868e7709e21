"""Parts of a table by its rows. Nothing is checked here: parts are lists of mixtures of Ratios."""

from producttables.products import left_rows, product_of, right_rows
from producttables.rowwork import (
    amounts_of, combined, free_places, head_place, killed_by, makes_all, reduced, row_minus, turned_about, unit_rows,
)


def rows_within(rows, part):
    """For each two mixtures of the part the amounts that make their product; None if some has none."""
    told = []
    for first in part:
        row = [amounts_of(part, product_of(rows, first, second)) for second in part]
        if None in row:
            return None
        told.append(row)
    return told


def is_side_part(rows, part):
    """Whether products of any mixture with the mixtures of the part, on either side, are made of it."""
    made = []
    for mixture in part:
        made.extend(left_rows(rows, mixture))
        made.extend(right_rows(rows, mixture))
    return makes_all(part, made)


def part_product(rows, part, other):
    """The steps of the product of both parts."""
    return reduced([product_of(rows, first, second) for first in part for second in other])


def part_raised(rows, part, many):
    """The steps of the power of the part, many at least 1."""
    made = reduced(part)
    for _ in range(many - 1):
        made = part_product(rows, made, part)
    return made


def is_closed_part(rows, part):
    """Whether products of two mixtures of the part are made of it."""
    return makes_all(part, part_product(rows, part, part))


def least_closed(rows, mixtures):
    """The steps of the least closed part that makes the mixtures."""
    made, many = reduced(mixtures), -1
    while len(made) > many:
        many = len(made)
        # products in a row, longer by one each time
        made = reduced(made + part_product(rows, made, mixtures))
    return made


def least_side(rows, mixtures):
    """The steps of the least side part that makes the mixtures."""
    made, many = reduced(mixtures), -1
    while len(made) > many:
        many = len(made)
        further = [row for mixture in made for row in left_rows(rows, mixture) + right_rows(rows, mixture)]
        made = reduced(made + further)
    return made


def commuting_part(rows, mixtures):
    """The steps of what commutes with all of the mixtures."""
    conditions = []
    for mixture in mixtures:
        lefts, rights = left_rows(rows, mixture), right_rows(rows, mixture)
        conditions.extend(turned_about([row_minus(left, right) for left, right in zip(lefts, rights)]))
    return killed_by(conditions, len(rows))


def middle_part(rows):
    """The steps of the middle."""
    return commuting_part(rows, unit_rows(len(rows)))


def led(steps, mixture):
    """The mixture as the quotient by the steps of a side part tells it."""
    wide = len(mixture)
    amounts = [mixture[head_place(row)] for row in steps]
    left = row_minus(mixture, combined(amounts, steps, wide))
    return [left[place] for place in free_places(steps, wide)]


def rows_behind(rows, part):
    """The rows of the quotient by a side part."""
    steps = reduced(part)
    places = free_places(steps, len(rows))
    return [[led(steps, rows[i][j]) for j in places] for i in places]
