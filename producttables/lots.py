"""How often the blocks of a table are held by a room, also layer by layer."""

from producttables.deadwork import dying_part
from producttables.rooms import need_room, need_rooms, traces_of
from producttables.roomwork import images_of, lot_counts, lot_mixtures, square_of, squares_within
from producttables.rowwork import is_nought_row, reduced, unit_rows


def lots(room):
    """The lots of the room at the blocks, in the sequence of the parting."""
    need_room(room)
    return lot_counts(lot_mixtures(room.table.rows()), room.squares())


def nought_lot(room):
    """The size less all lots."""
    need_room(room)
    return room.size - sum(lots(room))


def dead_squares(room):
    """What the mixtures of which the dying part is made do."""
    squares = room.squares()
    return [square_of(squares, mixture) for mixture in dying_part(room.table.rows())]


def is_split(room):
    """Whether the room is a sum of least rooms: all that dies makes 0 of all places."""
    need_room(room)
    return all([is_nought_row(row) for square in dead_squares(room) for row in square])


def falling_steps(room):
    """The steps of all places, of what the dying part makes of them, and so on, as long as they make something."""
    dead, told, found = dead_squares(room), unit_rows(room.size), []
    while told:
        found.append(told)
        told = reduced(images_of(dead, told))
    return found


def layers(room):
    """The sizes of the room, of what the dying part makes of it, and so on, as long as they are above 0."""
    need_room(room)
    return [len(told) for told in falling_steps(room)]


def layer_lots(room):
    """For each layer the lots of what it has behind the next one, the nought lot behind them."""
    need_room(room)
    mixtures, squares = lot_mixtures(room.table.rows()), room.squares()
    # lots are those within and those behind, added up: so each layer has what the next one lacks
    below, found = [0 for _ in mixtures] + [0], []
    for told in falling_steps(room)[::-1]:
        here = lot_counts(mixtures, squares_within(squares, told))
        here.append(len(told) - sum(here))
        found.append([count - lower for count, lower in zip(here, below)])
        below = here
    return found[::-1]


def same_lots(room, other):
    """Whether both rooms have the same lots and the same nought lot."""
    need_rooms(room, other)
    # sizes and traces tell it [77]
    return room.size == other.size and traces_of(room) == traces_of(other)
