"""Lots under meeting, their table, and its own squares."""

from producttables.basics import is_list, is_within
from producttables.checks import MOST_THINGS
from producttables.errors import InvalidLots
from producttables.rowwork import rising, row_minus, unit_row
from producttables.tables import Table

COUNTS_END = 6


def is_lot(value):
    """Whether any value is a tuple of rising COUNTS below 6."""
    if not isinstance(value, tuple) or not all([is_within(count, 0, COUNTS_END - 1) for count in value]):
        return False
    return all([first < second for first, second in zip(value, value[1:])])


def common_counts(lot, other):
    """The lot of what both have in common."""
    return tuple([count for count in lot if count in other])


def meet_places(value):
    """For each two lots the position of what both have in common; None unless they are lots under meeting."""
    if not is_list(value) or not 1 <= len(value) <= MOST_THINGS or not all([is_lot(lot) for lot in value]):
        return None
    told = list(value)
    met = [[common_counts(lot, other) for other in told] for lot in told]
    if any([told.count(lot) > 1 for lot in told]) or any([lot not in told for row in met for lot in row]):
        return None
    return [[told.index(lot) for lot in row] for row in met]


def need_lots(lots):
    """For each two lots of lots under meeting the position of what both have in common."""
    places = meet_places(lots)
    if places is None:
        raise InvalidLots(lots)
    return places


def meet_table(lots):
    """The table with a thing for each lot of lots under meeting."""
    places = need_lots(lots)
    return Table([[unit_row(len(places), place) for place in row] for row in places])


def meet_squares(lots):
    """The parting of the meet table, rising."""
    places = need_lots(lots)
    things = range(len(places))
    # a lot has more counts than those within it: their own squares are told ahead of its own
    found = {}
    for _, place in sorted([(len(lots[place]), place) for place in things]):
        square = unit_row(len(places), place)
        for other in things:
            if other != place and places[place][other] == other:
                square = row_minus(square, found[other])
        found[place] = square
    return rising([found[place] for place in things])
