"""Own squares lifted, living parts and turnings, by the rows of a table. Nothing is checked here."""

from producttables.deadwork import dying_part, trace_grid
from producttables.partwork import is_closed_part, led, rows_behind
from producttables.products import one_of, product_of
from producttables.ratios import Ratio
from producttables.rowwork import (
    amounts_of, combined, free_places, is_nought_row, noughts_row, reduced, row_minus, row_plus, row_scaled, unit_row,
    unit_rows,
)


def are_apart(rows, mixtures):
    """Whether all mixtures are own squares, and products of unlike ones are nought."""
    for i, first in enumerate(mixtures):
        for j, second in enumerate(mixtures):
            made = product_of(rows, first, second)
            if i == j and made != first:
                return False
            if i != j and not is_nought_row(made):
                return False
    return True


def quotient_of(rows):
    """The steps of the dying part, and the rows of the quotient by it."""
    dead = dying_part(rows)
    return dead, rows_behind(rows, dead)


def plain_lift(dead, mixture, wide):
    """A mixture that the quotient by the steps tells as this one."""
    lifted = noughts_row(wide)
    for place, number in zip(free_places(dead, wide), mixture):
        lifted[place] = number
    return lifted


def squared_own(rows, mixture):
    """The own square that the quotient tells as the mixture, which is one there, made of its powers."""
    made = mixture
    square = product_of(rows, made, made)
    while square != made:
        cube = product_of(rows, square, made)
        made = row_minus(row_scaled(square, Ratio(3)), row_scaled(cube, Ratio(2)))
        square = product_of(rows, made, made)
    return made


def left_over(rows, done, mixture):
    """What the own square leaves of the mixture from both sides."""
    ahead = row_minus(mixture, product_of(rows, done, mixture))
    return row_minus(ahead, product_of(rows, ahead, done))


def squares_lifted(rows, dead, mixtures):
    """Own squares, apart, that the quotient tells as these own squares, apart."""
    done, found = noughts_row(len(rows)), []
    for mixture in mixtures:
        within = left_over(rows, done, plain_lift(dead, mixture, len(rows)))
        found.append(squared_own(rows, within))
        done = row_plus(done, found[-1])
    return found


def partner_rows(rows):
    """The partners of the things of a table in which nothing dies."""
    size = len(rows)
    twice = [row + unit_row(size, place) for place, row in enumerate(trace_grid(rows))]
    return [row[size:] for row in reduced(twice)]


def products_missed(rows, quotient, images):
    """For each two things of the quotient by how much their images make another product than theirs."""
    missed = []
    for first, told in zip(images, quotient):
        missed.append([row_minus(product_of(rows, first, second), combined(mixture, images, len(rows)))
                       for second, mixture in zip(images, told)])
    return missed


def is_all_nought(grid):
    """Whether all rows of all lists of rows are nought."""
    return all([is_nought_row(row) for rows in grid for row in rows])


def led_closer(rows, image, lacking, partners):
    """The image less the sum of what its products with the images lack, each times the partner's image."""
    for missed, partner in zip(lacking, partners):
        image = row_minus(image, product_of(rows, missed, partner))
    return image


def keeping_products(rows, quotient, images):
    """The images of the quotient's things, changed by what dies until they keep products."""
    # what the images miss lies in a power of the dying part, twice as great
    # each time; no one of the table is wanted as long as the quotient's one has
    # an image that changes nothing of the images [63]
    partners = partner_rows(quotient)
    missed = products_missed(rows, quotient, images)
    while not is_all_nought(missed):
        behind = [combined(partner, images, len(rows)) for partner in partners]
        images = [led_closer(rows, image, lacking, behind) for image, lacking in zip(images, missed)]
        missed = products_missed(rows, quotient, images)
    return images


def living_part(rows):
    """The steps of a living part."""
    dead, quotient = quotient_of(rows)
    if not quotient:
        return []
    wide = len(rows)
    unit = squared_own(rows, plain_lift(dead, one_of(quotient), wide))
    images = []
    for thing in unit_rows(len(quotient)):
        lifted = product_of(rows, unit, plain_lift(dead, thing, wide))
        images.append(product_of(rows, lifted, unit))
    return reduced(keeping_products(rows, quotient, images))


def is_living_part(rows, part):
    """Whether the part is closed and has, with the dying part, all mixtures, and nothing in common with it."""
    dead = dying_part(rows)
    if len(part) + len(dead) != len(rows) or len(reduced(part + dead)) != len(rows):
        return False
    return is_closed_part(rows, part)


def halves_of(part, dead, mixture):
    """What of the mixture is made of the living part, and what of the dying part."""
    wide = len(mixture)
    amounts = amounts_of(part + dead, mixture)
    return combined(amounts[:len(part)], part, wide), combined(amounts[len(part):], dead, wide)


def lifted_along(dead, part, mixture, wide):
    """The mixture of the living part that the quotient tells as this one."""
    return combined(amounts_of([led(dead, row) for row in part], mixture), part, wide)


def turned_by(rows, mixture, dead):
    """The mixture turned by 1 and one that dies."""
    made = row_plus(mixture, product_of(rows, dead, mixture))
    added = made
    while not is_nought_row(made):
        made = row_minus(noughts_row(len(rows)), product_of(rows, made, dead))
        added = row_plus(added, made)
    return added


def turned_steps(rows, part, dead):
    """The steps of the part turned by 1 and a mixture that dies."""
    return reduced([turned_by(rows, mixture, dead) for mixture in part])


def turning_of(rows, part, other):
    """A mixture that dies by which the one living part, turned, is the other one."""
    dead, quotient = quotient_of(rows)
    wide = len(rows)
    made = noughts_row(wide)
    if not quotient:
        return made
    things = unit_rows(len(quotient))
    ahead = [lifted_along(dead, other, thing, wide) for thing in things]
    behind = [lifted_along(dead, part, thing, wide) for thing in things]
    for image, partner in zip(ahead, partner_rows(quotient)):
        made = row_plus(made, product_of(rows, image, combined(partner, behind, wide)))
    unit = one_of(quotient)
    first, second = combined(unit, behind, wide), combined(unit, ahead, wide)
    made = row_minus(row_minus(made, first), second)
    return row_plus(made, product_of(rows, second, first))
