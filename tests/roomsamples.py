"""Rooms that the tests go through, put together of known ones the plain way (not by the package)."""

import random
from fractions import Fraction

from producttables.makers import four_table, in_letters, line_table
from producttables.rooms import Room
from samples import SAMPLES, by_places
from support import letters_of, numbers_of, plain, plain_steps, plain_sum, ratios


def through(row, square):
    """What a list of Fractions becomes by a square."""
    return plain_sum(row, square, len(square))


def product(first, second):
    """First the one, then the other one."""
    return [plain_sum(row, second, len(second[0])) for row in first]


def unit(size):
    return [[Fraction(int(i == j)) for j in range(size)] for i in range(size)]


def undo(square):
    size = len(square)
    return [row[size:] for row in plain_steps([list(row) + one for row, one in zip(square, unit(size))])]


def squares_of(room):
    return plain(room.squares())


def does(room, mixture):
    """What a mixture does, by the words of [71]."""
    squares, amounts = squares_of(room), plain(list(mixture))
    return [[sum((a * square[p][q] for a, square in zip(amounts, squares)), Fraction(0)) for q in range(room.size)]
            for p in range(room.size)]


def trace(square):
    return sum((square[p][p] for p in range(len(square))), Fraction(0))


def beside(*rooms):
    """Rooms of one table beside one another."""
    squares = []
    for at in range(rooms[0].table.size):
        made, ahead, size = [], 0, sum(room.size for room in rooms)
        for room in rooms:
            for row in squares_of(room)[at]:
                made.append([Fraction(0)] * ahead + row + [Fraction(0)] * (size - ahead - room.size))
            ahead += room.size
        squares.append(made)
    return Room(rooms[0].table, ratios(squares))


def in_places(room, seed):
    """The room with other lists for its places, with fractions."""
    letters = plain(letters_of(seed, room.size))
    back = undo(letters)
    return Room(room.table, ratios([product(product(letters, square), back) for square in squares_of(room)]))


def table_in_letters(room, seed):
    """The room of the table in other letters, whose things do what the letters do."""
    letters = letters_of(seed, room.table.size)
    return Room(in_letters(room.table, letters), ratios([does(room, row) for row in letters]))


def nought_room(table, size):
    """The room in which all things make nought."""
    return Room(table, [[[0] * size] * size] * table.size)


def own(table):
    """The own room, by its words: the places are the things."""
    return Room(table, table.rows())


def natural(units, size):
    """Of the table of these units the room in which (i, j) makes of place j place i."""
    table = by_places(len(units), {(units.index((i, j)), units.index((k, m))): (units.index((i, m)), 1)
                                   for i, j in units for k, m in units if j == k})
    return Room(table, [[[1 if (p, q) == (j, i) else 0 for q in range(size)] for p in range(size)] for i, j in units])


def single(table, place, number=1):
    """A room of one place in which just one thing makes something of it."""
    return Room(table, [[[number if at == place else 0]] for at in range(table.size)])


def places_moved(group):
    """The room in which a turn makes of each place the one to which it leads it."""
    told = [tuple(turn) for turn in group]
    table = by_places(len(told), {(i, j): (told.index(tuple(first[p] for p in second)), 1)
                                  for i, first in enumerate(told) for j, second in enumerate(told)})
    return Room(table, [[[1 if turn[p] == q else 0 for q in range(len(turn))] for p in range(len(turn))]
                        for turn in told])


UPPER = natural([(0, 0), (0, 1), (1, 1)], 2)
UPPER_3 = natural([(0, 0), (0, 1), (0, 2), (1, 1), (1, 2), (2, 2)], 3)
SQUARES = natural([(0, 0), (0, 1), (1, 0), (1, 1)], 2)
CORNER = natural([(0, 0), (0, 1)], 2)
ROUNDS = [(0, 1, 2), (1, 2, 0), (2, 0, 1), (1, 0, 2), (0, 2, 1), (2, 1, 0)]
MOVED = places_moved(ROUNDS)
POWERS = own(SAMPLES["powers"])
FOUR = own(four_table(-1, -1))
EMPTY = Room(SAMPLES["empty three"], [[[0, 0, 0], [1, 0, 0], [2, 0, 0]], [[0, 0, 0], [0, 0, 0], [1, 0, 0]],
                                      [[0, 0, 0], [0, 0, 0], [0, 0, 0]]])
ROOT = own(SAMPLES["root"])
LEFT = own(SAMPLES["left things"])
RIGHT = own(SAMPLES["right things"])
FROM_ONE = own(SAMPLES["powers from one"])

ROOMS = {
    "upper": UPPER, "upper three": UPPER_3, "squares": SQUARES, "corner": CORNER, "moved": MOVED, "powers": POWERS,
    "four": FOUR, "empty": EMPTY, "root": ROOT, "left": LEFT, "right": RIGHT, "from one": FROM_ONE,
    "own upper": own(UPPER.table), "own corner": own(CORNER.table), "own moved": own(MOVED.table),
    "own squares": own(SQUARES.table), "own upper three": own(UPPER_3.table),
    "round": own(line_table([-1, 0, 0, 1])), "half": own(SAMPLES["half"]),
    "nought": nought_room(UPPER.table, 2), "nought squares": nought_room(SQUARES.table, 3),
    "nought empty": nought_room(SAMPLES["empty"], 2),
}
ROOMS.update({
    "two uppers": beside(UPPER, UPPER),
    "upper and single": beside(UPPER, single(UPPER.table, 0), single(UPPER.table, 0)),
    "upper, single, nought": beside(nought_room(UPPER.table, 1), UPPER, single(UPPER.table, 2)),
    "singles": beside(*[single(UPPER_3.table, place) for place in (0, 3, 3, 5)]),
    "squares and nought": beside(SQUARES, nought_room(SQUARES.table, 2), SQUARES),
    "moved and nought": beside(MOVED, nought_room(MOVED.table, 1)),
    "corner and single": beside(CORNER, single(CORNER.table, 0), nought_room(CORNER.table, 1)),
    "powers and nought": beside(POWERS, nought_room(POWERS.table, 2)),
    "powers twice": beside(POWERS, POWERS),
    "empty and nought": beside(EMPTY, nought_room(EMPTY.table, 1)),
    "root thrice": beside(ROOT, ROOT, ROOT),
    "four and nought": beside(FOUR, nought_room(FOUR.table, 2)),
    "left and left": beside(LEFT, LEFT),
})
ROOMS.update({
    "upper in places": in_places(ROOMS["upper and single"], 11),
    "upper in letters": table_in_letters(ROOMS["upper, single, nought"], 12),
    "upper three in both": table_in_letters(in_places(beside(UPPER_3, single(UPPER_3.table, 3)), 13), 14),
    "moved in both": table_in_letters(in_places(ROOMS["moved and nought"], 15), 16),
    "squares in both": in_places(table_in_letters(ROOMS["squares and nought"], 17), 18),
    "powers in both": in_places(table_in_letters(ROOMS["powers and nought"], 19), 20),
    "four in letters": table_in_letters(FOUR, 21),
    "root in both": in_places(table_in_letters(beside(ROOT, nought_room(ROOT.table, 1)), 22), 23),
    "empty in both": in_places(table_in_letters(EMPTY, 24), 25),
    "corner in both": in_places(table_in_letters(ROOMS["corner and single"], 26), 27),
})


def same_table(name):
    """The rooms of an equal table."""
    return [room for room in ROOMS.values() if room.table == ROOMS[name].table]


def kept_of(room, rows):
    """The steps of the least kept grid with these rows, the plain way."""
    told = plain_steps([list(row) for row in plain(rows)])
    while True:
        further = [through(row, square) for square in squares_of(room) for row in told]
        more = plain_steps(told + further)
        if len(more) == len(told):
            return told
        told = more


def kept_grids(room, seed):
    """Kept grids: the empty one, all rows, and others, told by steps of Fractions."""
    seeded = random.Random(seed)
    found = [[], unit(room.size)]
    for place in range(room.size):
        found.append(kept_of(room, [unit(room.size)[place]]))
    for _ in range(2):
        found.append(kept_of(room, [numbers_of(seeded.randint(0, 9999), room.size, 2, 2)]))
    # what mixtures make of all places, the dying ones among them
    for at in range(room.table.size):
        found.append(kept_of(room, squares_of(room)[at]))
    unlike = []
    for one in found:
        if one not in unlike:
            unlike.append(one)
    return unlike


def other_grid(told, seed):
    """Rows that make the same: sums of the steps, some of them made of others, and noughts."""
    if not told:
        return []
    seeded = random.Random(seed)
    while True:
        amounts = [[seeded.randint(-2, 2) for _ in told] for _ in range(len(told) + 1)]
        rows = [plain_sum(row, told, len(told[0])) for row in amounts] + [[Fraction(0)] * len(told[0])]
        if len(plain_steps(rows)) == len(told):
            return ratios(rows)
