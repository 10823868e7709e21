"""Webs of places and arrows, their paths and tables."""

from producttables.basics import is_list, is_within
from producttables.checks import MOST_THINGS, need_many
from producttables.errors import InvalidWeb, TooMany
from producttables.rowwork import noughts_row, unit_row
from producttables.tables import Table

MOST_PLACES = 4
MOST_ARROWS = 7


def is_arrow(places, value):
    """Whether any value is a tuple of two places."""
    if not isinstance(value, tuple) or len(value) != 2:
        return False
    return all([is_within(place, 0, places - 1) for place in value])


def end_of(arrows, path):
    """The place at which the path ends."""
    place, along = path
    return arrows[along[-1]][1] if along else place


def longer_by_one(arrows, told):
    """All paths that have one arrow more than the told ones, sorted."""
    found = []
    for place, along in told:
        for position, arrow in enumerate(arrows):
            if arrow[0] == end_of(arrows, (place, along)):
                found.append((place, along + (position,)))
    return sorted(found)


def all_paths(places, arrows):
    """The paths by how many arrows they have; None if arrows lead round."""
    told = [(place, ()) for place in range(places)]
    found = []
    while told:
        # with as many arrows as there are places a path comes twice to some place
        if len(told[0][1]) == places:
            return None
        found.extend(told)
        told = longer_by_one(arrows, told)
    return found


def need_paths(places, arrows):
    """The paths of a web."""
    need_many(places, 1, MOST_PLACES)
    if not is_list(arrows) or len(arrows) > MOST_ARROWS or not all([is_arrow(places, arrow) for arrow in arrows]):
        raise InvalidWeb(arrows)
    found = all_paths(places, arrows)
    if found is None:
        raise InvalidWeb(arrows)
    return found


def paths(places, arrows):
    """All paths, by how many arrows they have, then sorted."""
    return need_paths(places, arrows)


def web_table(places, arrows):
    """The table with a thing for each path."""
    found = need_paths(places, arrows)
    many = len(found)
    if many > MOST_THINGS:
        raise TooMany("things", MOST_THINGS)
    rows = []
    for path in found:
        row = []
        for other in found:
            joins = end_of(arrows, path) == other[0]
            row.append(unit_row(many, found.index((path[0], path[1] + other[1]))) if joins else noughts_row(many))
        rows.append(row)
    return Table(rows)
