"""Rooms: squares of numbers that do what the things of a table make; kept grids of them."""

from producttables.basics import is_list
from producttables.checks import grid_from, need_mixture, rows_from
from producttables.errors import (
    InvalidGrid, InvalidRoom, InvalidSquares, NotKept, NothingLeft, NotRoom, TooMany, UnlikeTables,
)
from producttables.products import left_rows, one_of
from producttables.roomwork import (
    first_unlike, is_kept_by, square_of, square_traces, squares_behind, squares_within,
)
from producttables.rowwork import noughts_row, reduced, unit_rows
from producttables.tables import need_table

MOST_PLACES = 6


class Room:
    """What each thing of a table makes of up to six places; it never changes."""

    def __init__(self, table, squares):
        need_table(table)
        told = squares_from(table.size, squares)
        if told is None:
            raise InvalidSquares(squares)
        things = first_unlike(table.rows(), told)
        if things is not None:
            raise NotRoom(things)
        self._table = table
        self._squares = told

    @property
    def size(self):
        """How many places there are."""
        return len(self._squares[0])

    @property
    def table(self):
        """The table whose room it is."""
        return self._table

    def squares(self):
        """For each thing its square: what it makes of each place."""
        return [[list(row) for row in square] for square in self._squares]

    def __eq__(self, other):
        return isinstance(other, Room) and self._table == other._table and self._squares == other._squares

    def __repr__(self):
        return f"Room({self._table!r}, {self._squares!r})"


def squares_from(many, value):
    """The value as so many squares of one size; None unless it is a list of such."""
    if not is_list(value) or len(value) != many:
        return None
    squares = []
    for square in value:
        rows = rows_from(square, MOST_PLACES, 1, MOST_PLACES)
        if not rows or len(rows) != len(rows[0]) or (squares and len(rows) != len(squares[0])):
            return None
        squares.append(rows)
    return squares


def need_room(value):
    """Nothing, if the value is a Room."""
    if not isinstance(value, Room):
        raise InvalidRoom(value)


def need_rooms(room, other):
    """Nothing, if both values are Rooms of equal tables."""
    need_room(room)
    need_room(other)
    if room.table != other.table:
        raise UnlikeTables()


def need_places(many):
    """Nothing, if a room may have so many places."""
    if many > MOST_PLACES:
        raise TooMany("rows", MOST_PLACES)


def steps_from(wide, value):
    """The steps of the value; None unless it is a grid of this width, or has no rows."""
    grid = grid_from(value)
    if grid is None or (grid and len(grid[0]) != wide):
        return None
    return reduced(grid)


def need_steps(room, grid):
    """The steps of a grid of the width of a Room."""
    need_room(room)
    told = steps_from(room.size, grid)
    if told is None:
        raise InvalidGrid(grid)
    return told


def need_kept(squares, told):
    """Nothing, if the steps are kept."""
    if not is_kept_by(squares, told):
        raise NotKept()


def acts(room, mixture):
    """What a mixture of the room's table does: a square."""
    need_room(room)
    return square_of(room.squares(), need_mixture(room.table.size, mixture))


def traces_of(room):
    """The traces of the things in the room."""
    need_room(room)
    return square_traces(room.squares())


def is_full(room):
    """Whether the table has a one that makes of each place itself."""
    need_room(room)
    unchanging = one_of(room.table.rows())
    return unchanging is not None and square_of(room.squares(), unchanging) == unit_rows(room.size)


def own_room(table):
    """The room whose places are the things of the table."""
    need_table(table)
    need_places(table.size)
    rows = table.rows()
    return Room(table, [left_rows(rows, thing) for thing in unit_rows(table.size)])


def is_kept(room, value):
    """Whether any value is a kept grid of the room."""
    need_room(room)
    told = steps_from(room.size, value)
    return told is not None and is_kept_by(room.squares(), told)


def room_within(room, grid):
    """The room whose places are the rows of the steps of a kept grid."""
    told = need_steps(room, grid)
    squares = room.squares()
    need_kept(squares, told)
    if not told:
        raise NothingLeft()
    return Room(room.table, squares_within(squares, told))


def room_behind(room, grid):
    """The room whose places are those that are no heads of the steps of a kept grid."""
    told = need_steps(room, grid)
    squares = room.squares()
    need_kept(squares, told)
    if len(told) == room.size:
        raise NothingLeft()
    return Room(room.table, squares_behind(squares, told))


def room_beside(room, other):
    """The room with its own places, then the other one's."""
    need_rooms(room, other)
    need_places(room.size + other.size)
    ahead, rest = noughts_row(room.size), noughts_row(other.size)
    squares = []
    for first, second in zip(room.squares(), other.squares()):
        squares.append([row + rest for row in first] + [ahead + row for row in second])
    return Room(room.table, squares)
