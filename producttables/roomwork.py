"""Rooms by their squares of Ratios. Nothing is checked here: grids are told by their steps."""

from producttables.livework import plain_lift, quotient_of
from producttables.middlework import parting_of
from producttables.partwork import led
from producttables.ratios import Ratio
from producttables.rowwork import combined, dotted, free_places, head_place, is_nought_row


def rows_through(rows, square):
    """What each of the rows becomes by the square."""
    return [combined(row, square, len(square)) for row in rows]


def square_of(squares, mixture):
    """What the mixture does: the sum of the squares, each times its amount."""
    places = range(len(squares[0]))
    return [combined(mixture, [square[place] for square in squares], len(places)) for place in places]


def first_unlike(rows, squares):
    """The first things (i, j) such that first j, then i is not what i times j does; None if there are none."""
    things = range(len(rows))
    for i in things:
        for j in things:
            if rows_through(squares[j], squares[i]) != square_of(squares, rows[i][j]):
                return i, j
    return None


def square_traces(squares):
    """For each square the sum of the numbers on its middle line."""
    return [Ratio.total([row[place] for place, row in enumerate(square)]) for square in squares]


def images_of(squares, rows):
    """What each of the rows becomes by each of the squares."""
    return [image for square in squares for image in rows_through(rows, square)]


def is_kept_by(squares, told):
    """Whether all that the squares make of the steps is made of them."""
    return all([is_nought_row(led(told, image)) for image in images_of(squares, told)])


def squares_within(squares, told):
    """The squares of the room within kept steps."""
    # of what is made of steps the amounts stand at the heads
    heads = [head_place(row) for row in told]
    return [[[image[head] for head in heads] for image in rows_through(told, square)] for square in squares]


def squares_behind(squares, told):
    """The squares of the room behind kept steps."""
    places = free_places(told, len(squares[0]))
    return [[led(told, square[place]) for place in places] for square in squares]


def lot_mixtures(rows):
    """For each block of the quotient by the dying part a mixture that is told there as its own square."""
    dead, quotient = quotient_of(rows)
    if not quotient:
        return []
    return [plain_lift(dead, square, len(rows)) for square in parting_of(quotient)]


def lot_counts(mixtures, squares):
    """The traces of the mixtures, which are COUNTS, in the room of these squares."""
    traces = square_traces(squares)
    return [dotted(mixture, traces).top for mixture in mixtures]
