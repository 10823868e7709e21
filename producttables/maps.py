"""Maps from rooms to rooms of the same table that lead along what the things make."""

from producttables.checks import rows_from
from producttables.partwork import led
from producttables.rooms import need_rooms
from producttables.roomwork import rows_through
from producttables.rowwork import (
    combined, is_nought_row, killed_by, noughts_row, reduced, row_minus, turned_about, unit_row, unit_rows,
)


def folded(row, wide):
    """The numbers of a row as rows of this width."""
    return [row[at:at + wide] for at in range(0, len(row), wide)]


def one_behind_another(rows):
    """The numbers of the rows, one row behind another."""
    return [number for row in rows for number in row]


def places_and_made(squares):
    """For few places a list each: the place's row, and rows that things make of it, with these things; all make all."""
    wide = len(squares[0])
    told, found = [], []
    for place in range(wide):
        reached = []
        # None stands for the place itself
        ways = [(None, unit_row(wide, place))] + [(thing, square[place]) for thing, square in enumerate(squares)]
        for thing, row in ways:
            if not is_nought_row(led(told, row)):
                told = reduced(told + [row])
                reached.append((thing, row))
        if reached:
            found.append(reached)
    return found


def led_by_places(squares, others):
    """Rows of maps, one behind another, of which those of all maps are made: each leads one place somewhere."""
    # where a place is led tells where all is led that the things make of it
    reached, wide = places_and_made(squares), len(others[0])
    basis = [row for rows in reached for _, row in rows]
    units = unit_rows(len(basis))
    undo = [row[len(basis):] for row in reduced([row + unit for row, unit in zip(basis, units)])]
    found = []
    for at in range(len(reached)):
        for place in range(wide):
            images = []
            for position, rows in enumerate(reached):
                for thing, _ in rows:
                    image = unit_row(wide, place) if thing is None else others[thing][place]
                    images.append(image if position == at else noughts_row(wide))
            found.append(one_behind_another([combined(amounts, images, wide) for amounts in undo]))
    return found


def missed_by(rows, square, other):
    """By how much what the square makes of places is led elsewhere than to what the other one makes of their images."""
    images = [combined(row, rows, len(other)) for row in square]
    return one_behind_another([row_minus(first, second) for first, second in zip(images, rows_through(rows, other))])


def going_along(told, square, other):
    """The steps of what of the told maps, one at least, leads along what the square and the other one make."""
    missed = [missed_by(folded(row, len(other)), square, other) for row in told]
    wide = len(told[0])
    return reduced([combined(amounts, told, wide) for amounts in killed_by(turned_about(missed), len(told))])


def maps(room, other):
    """The steps of all maps from the room to the other one, their rows one behind another."""
    need_rooms(room, other)
    squares, others = room.squares(), other.squares()
    told = led_by_places(squares, others)
    # thing by thing: fewer and fewer maps are left
    for first, second in zip(squares, others):
        if told:
            told = going_along(told, first, second)
    return told


def is_map(room, other, value):
    """Whether any value is a map from the room to the other one."""
    need_rooms(room, other)
    rows = rows_from(value, room.size, other.size, other.size)
    if rows is None or len(rows) != room.size:
        return False
    for first, second in zip(room.squares(), other.squares()):
        if rows_through(rows, second) != [combined(row, rows, other.size) for row in first]:
            return False
    return True
