"""Groups of turns, their tables and rings; kept grids beside kept ones."""

from producttables.basics import is_list, is_within
from producttables.checks import MOST_THINGS
from producttables.errors import InvalidTurns, NotGroup
from producttables.products import one_of
from producttables.ratios import Ratio
from producttables.rooms import MOST_PLACES, need_kept, need_steps
from producttables.roomwork import square_of
from producttables.rowwork import combined, dotted, killed_by, row_minus, unit_row, unit_rows
from producttables.tables import Table


def turn_from(value):
    """The value as a turn; None unless it is one."""
    if not is_list(value) or not 1 <= len(value) <= MOST_PLACES:
        return None
    for number in value:
        if not is_within(number, 0, len(value) - 1):
            return None
    turn = list(value)
    return turn if sorted(turn) == list(range(len(turn))) else None


def turn_behind(turn, other):
    """The turn that does the other one first, then the one."""
    return [turn[place] for place in other]


def behind_places(value):
    """For each two turns the position of the one behind the other one; None unless it is a group of turns."""
    if not is_list(value) or not 1 <= len(value) <= MOST_THINGS:
        return None
    turns = [turn_from(turn) for turn in value]
    if None in turns or any([len(turn) != len(turns[0]) or turns.count(turn) > 1 for turn in turns]):
        return None
    made = [[turn_behind(turn, other) for other in turns] for turn in turns]
    if any([turn not in turns for row in made for turn in row]):
        return None
    return [[turns.index(turn) for turn in row] for row in made]


def is_turns(value):
    """Whether any value is a group of turns."""
    return behind_places(value) is not None


def need_turns(turns):
    """For each two turns of a group of turns the position of the one behind the other one."""
    places = behind_places(turns)
    if places is None:
        raise InvalidTurns(turns)
    return places


def group_table(turns):
    """The table with a thing for each turn of a group of turns."""
    places = need_turns(turns)
    return Table([[unit_row(len(places), place) for place in row] for row in places])


def ring_of(places, position):
    """The positions of a turn, it behind itself, and so on, rising."""
    found, at = [position], places[position][position]
    while at != position:
        found.append(at)
        at = places[position][at]
    return sorted(found)


def rings_led(places, ring):
    """All rings to which the ring is led, sorted."""
    found = []
    for turn in range(len(places)):
        # the turn undoes itself by the one that it makes with it what changes nothing
        back = places[turn].index(unmoved(places))
        other = sorted([places[places[turn][position]][back] for position in ring])
        if other not in found:
            found.append(other)
    return sorted(found)


def unmoved(places):
    """The position of the turn that moves nothing."""
    return places.index(list(range(len(places))))


def rings(turns):
    """The lots of rings that are led to one another, sorted."""
    places = need_turns(turns)
    found = []
    for position in range(len(places)):
        lot = rings_led(places, ring_of(places, position))
        if lot not in found:
            found.append(lot)
    return sorted(found)


def is_group(rows):
    """Whether each two things make a thing, one thing is the one, and each thing makes the one with some thing."""
    things, unchanging = unit_rows(len(rows)), one_of(rows)
    if any([mixture not in things for row in rows for mixture in row]):
        return False
    return unchanging in things and all([unchanging in row for row in rows])


def beside_room(room, grid):
    """A kept grid that has nothing in common with a kept grid, and makes all rows together with it."""
    told = need_steps(room, grid)
    rows, squares = room.table.rows(), room.squares()
    if not is_group(rows):
        raise NotGroup()
    need_kept(squares, told)
    # of two rows the sum of the products of what all things make of them, and of
    # what the one leaves of them, is above 0 of a row with itself, if that is not
    # nought, and the things keep it: so what it makes 0 with kept rows is kept
    units = unit_rows(room.size)
    left = [row_minus(unit, row) for unit, row in zip(units, square_of(squares, one_of(rows)))]
    weights = [[Ratio.total([dotted(square[p], square[q]) for square in squares + [left]])
                for q in range(room.size)] for p in range(room.size)]
    return killed_by([combined(row, weights, room.size) for row in told], room.size)
