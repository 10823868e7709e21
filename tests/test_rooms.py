"""[71], [72], [73]: rooms, what mixtures do in them, their traces, own rooms, full ones, kept grids."""

import random
import unittest

from producttables.errors import (
    InvalidGrid, InvalidMixture, InvalidRoom, InvalidSquares, InvalidTable, NotKept, NothingLeft, NotRoom, TooMany,
    UnlikeTables,
)
from producttables.makers import beside as tables_beside, line_table, noughts, numbers_table, upper_table
from producttables.ratios import Ratio
from producttables.rooms import (
    Room, acts, is_full, is_kept, own_room, room_behind, room_beside, room_within, traces_of,
)
from producttables.lefts import trace
from producttables.parts import side_of
from producttables.steps import steps
from producttables.tables import one
from producttables.traces import traces
from producttables.dying import dying
from roomsamples import (
    ROOMS, UPPER, beside, does, in_places, kept_grids, kept_of, other_grid, own, product, same_table, squares_of,
    table_in_letters, through, unit,
)
from roomsamples import trace as plain_trace
from samples import SAMPLES, mixtures_of
from support import KINDS, Case, fresh, numbers_of, plain, plain_steps, plain_sum, ratios
import support

ONE = SAMPLES["single"]


def is_square_list(value, many):
    """Whether a value is so many squares of one size from 1 to 6."""
    if type(value) not in (list, tuple) or len(value) != many:
        return False
    if not all(type(square) in (list, tuple) and 1 <= len(square) <= 6 for square in value):
        return False
    sizes = {len(square) for square in value}
    return len(sizes) == 1 and all(support.is_numbers(row, len(square), len(square))
                                   for square in value for row in square)


def first_wrong(table, squares):
    """The first things (i, j) whose squares don't go along, by the words of [71]."""
    told, rows = plain(squares), plain(table.rows())
    for i in range(table.size):
        for j in range(table.size):
            wanted = [[sum(a * square[p][q] for a, square in zip(rows[i][j], told)) for q in range(len(told[0]))]
                      for p in range(len(told[0]))]
            if product(told[j], told[i]) != wanted:
                return i, j
    return None


class Rooms(Case):
    def test_rooms(self):
        for room in ROOMS.values():
            made = Room(room.table, room.squares())
            self.assertEqual(made.size, len(room.squares()[0]))
            self.assertIs(type(made.size), int)
            self.assertEqual(made.table, room.table)
            self.assertEqual({type(number) for square in made.squares() for row in square for number in row}, {Ratio})
            self.assertIs(made == room, True)
            self.assertIs(made != room, False)
            self.assertEqual(Room(table=room.table, squares=support.tuples(room.squares())), room)
            self.assertEqual(repr(made), f"Room({room.table!r}, {room.squares()!r})")

    def test_told(self):
        room = Room(ONE, [[[1, 0], [0, Ratio(0)]]])
        self.assertEqual(repr(room), "Room(Table([[[Ratio(1, 1)]]]), [[[Ratio(1, 1), Ratio(0, 1)], "
                                     "[Ratio(0, 1), Ratio(0, 1)]]])")
        # lists become: v times the square
        self.assertEqual(acts(Room(ONE, [[[1, Ratio(2, 3)], [0, 0]]]), [3]), ratios([[3, 2], [0, 0]]))

    def test_copies(self):
        squares = [[[1, 0], [0, 0]], [[0, 0], [1, 0]], [[0, 0], [0, 1]]]
        room = Room(upper_table(2), squares)
        self.assertEqual(room, UPPER)
        fresh(squares)
        self.assertEqual(room, UPPER)
        told = room.squares()
        fresh(told)
        self.assertEqual(room, UPPER)
        self.assertEqual(room.squares(), UPPER.squares())
        self.assertEqual(repr(room), repr(UPPER))
        for name in ("size", "table"):
            with self.assertRaises(AttributeError):
                setattr(room, name, 1)

    def test_equal(self):
        rooms = list(ROOMS.values())
        for i, first in enumerate(rooms):
            for j, second in enumerate(rooms):
                same = first.table == second.table and first.squares() == second.squares()
                self.assertIs(first == second, same)
                self.assertIs(first != second, not same)
                self.assertTrue(same or i != j)
        for value in KINDS:
            self.assertIs(UPPER == value, False)
            self.assertIs(value == UPPER, False)
        self.assertIs(UPPER == UPPER.table, False)
        # equal squares of unlike tables
        self.assertIs(Room(noughts(2), [[[0]], [[0]]]) == Room(SAMPLES["left things"], [[[0]], [[0]]]), False)

    def test_squares(self):
        for value in KINDS + [[[[1]], [[1, 0], [0, 1]]], [[[0] * 6] * 6], [[[0] * 7] * 7], [[[1, 0]]], [[[1], [0]]], [[]],
                              [[[]]], [[[0] * 6] * 5], [[[0]], [[0]]], [[[1, 0], [0, False]]], [[[1, 0], None]],
                              [([0, 0], (0, 0))], [[{0: 1}]], [[[1], [1, 0]]]]:
            if not is_square_list(value, 1):
                self.fails(InvalidSquares, Room, ONE, value, value=value)
            elif first_wrong(ONE, value) is None:
                self.assertEqual(Room(ONE, value).squares(), ratios(value))
            else:
                self.fails(NotRoom, Room, ONE, value, places=(0, 0))
        table = SAMPLES["root"]
        for value in ([[[1]]], [[[1]]] * 3, [[[1]], [[1, 0], [0, 1]]], [[[1]], []], [[[1]], [[True]]], [[[1]], None], []):
            self.fails(InvalidSquares, Room, table, value, value=value)
        self.fails(InvalidTable, Room, None, None, value=None)
        self.fails(InvalidTable, Room, table.rows(), [[[1]]], value=table.rows())
        for value in KINDS:
            if not isinstance(value, type(table)):
                self.fails(InvalidTable, Room, value, [[[1]]], value=value)

    def test_squares_that_do_not_go_along(self):
        seen = set()
        for seed, (name, room) in enumerate(ROOMS.items()):
            seeded = random.Random(seed)
            for _ in range(4):
                squares = room.squares()
                i, p, q = (seeded.randrange(room.table.size), seeded.randrange(room.size), seeded.randrange(room.size))
                squares[i][p][q] = squares[i][p][q] + Ratio(seeded.choice([1, -1, 2]), seeded.choice([1, 3]))
                places = first_wrong(room.table, squares)
                if places is None:
                    self.assertEqual(Room(room.table, squares).squares(), squares)
                else:
                    seen.add(places)
                    self.fails(NotRoom, Room, room.table, squares, places=places)
        self.assertGreater(len(seen), 8)

    def test_the_first_things(self):
        # squares as they stand would be multiplied the other way round
        table, other = SAMPLES["left things"], SAMPLES["right things"]
        first, second = [[[1, 0], [0, 0]], [[1, 0], [1, 0]]], [[[1, 0], [0, 0]], [[1, 1], [0, 0]]]
        self.assertEqual(Room(table, first).size, 2)
        self.fails(NotRoom, Room, table, second, places=(0, 1))
        self.assertEqual(Room(other, second).size, 2)
        self.fails(NotRoom, Room, other, first, places=(0, 1))
        self.fails(NotRoom, Room, table, [[[0]], [[2]]], places=(0, 1))
        self.fails(NotRoom, Room, noughts(3), [[[0]], [[0]], [[1]]], places=(2, 2))
        self.fails(NotRoom, Room, noughts(2), [[[0, 1], [0, 0]], [[0, 0], [1, 0]]], places=(0, 1))
        self.fails(NotRoom, Room, upper_table(2), [[[0, 0], [0, 1]], [[0, 0], [1, 0]], [[1, 0], [0, 0]]], places=(0, 1))


class Acts(Case):
    def test_acts(self):
        for seed, room in enumerate(ROOMS.values()):
            for mixture in mixtures_of(room.table, seed):
                told = self.call(acts, room, mixture)
                self.assertEqual(told, ratios(does(room, mixture)))
                self.assertEqual({type(number) for row in told for number in row}, {Ratio})

    def test_products(self):
        # first b, then a does what a b does
        for seed, room in enumerate(ROOMS.values()):
            first, second = numbers_of(seed, room.table.size), numbers_of(seed + 1, room.table.size)
            made = support.plain_times(room.table, plain(first), plain(second))
            self.assertEqual(plain(acts(room, ratios(made))), product(does(room, second), does(room, first)))

    def test_traces(self):
        for room in ROOMS.values():
            told = self.call(traces_of, room)
            self.assertEqual(told, ratios([plain_trace(square) for square in squares_of(room)]))
            for row in dying(room.table):
                self.assertEqual(plain_trace(does(room, row)), 0)

    def test_full(self):
        for name, room in ROOMS.items():
            unchanging = one(room.table)
            wanted = unchanging is not None and does(room, unchanging) == unit(room.size)
            self.assertIs(self.call(is_full, room), wanted)
        for name, wanted in [("upper", True), ("own upper", True), ("nought", False), ("corner", False), ("squares", True),
                             ("upper, single, nought", False), ("upper in letters", False), ("moved in both", False),
                             ("upper three in both", True), ("empty", False), ("root thrice", True), ("left", False),
                             ("four in letters", True), ("squares and nought", False)]:
            self.assertIs(is_full(ROOMS[name]), wanted)

    def test_own_room(self):
        for seed, table in enumerate(SAMPLES.values()):
            if table.size > 6:
                self.fails(TooMany, own_room, table, what="rows", limit=6)
                continue
            room = self.call(own_room, table)
            self.assertIs(type(room), Room)
            self.assertEqual(room, own(table))
            self.assertEqual(traces_of(room), [trace(table, table.thing(place)) for place in range(table.size)])
            self.assertIs(is_full(room), one(table) is not None)
            for i in range(table.size):
                for j in range(table.size):
                    made = support.plain_times(table, unit(table.size)[i], unit(table.size)[j])
                    self.assertEqual(plain_trace(does(room, ratios(made))), plain(traces(table)[i][j]))
        for many in (7, 8):
            self.fails(TooMany, own_room, noughts(many), what="rows", limit=6)
        self.assertEqual(own_room(noughts(6)).size, 6)

    def test_wrong(self):
        for value in KINDS:
            if not support.is_numbers(value, 3, 3):
                self.fails(InvalidMixture, acts, UPPER, value, value=value)
            if not isinstance(value, type(ONE)):
                self.fails(InvalidTable, own_room, value, value=value)
            self.fails(InvalidRoom, acts, value, None, value=value)
            self.fails(InvalidRoom, traces_of, value, value=value)
            self.fails(InvalidRoom, is_full, value, value=value)


class Kept(Case):
    def test_kept_grids(self):
        for seed, room in enumerate(ROOMS.values()):
            for told in kept_grids(room, seed):
                self.assertIs(self.call(is_kept, room, ratios(told)), True)
                self.assertIs(is_kept(room, other_grid(told, seed)), True)
            self.assertIs(is_kept(room, [[0] * room.size]), True)
            self.assertIs(is_kept(room, []), True)
            self.assertIs(is_kept(room, ()), True)

    def test_any_rows(self):
        seen = set()
        for seed, room in enumerate(ROOMS.values()):
            seeded = random.Random(seed)
            for _ in range(6):
                rows = [[seeded.choice([0, 0, 1, Ratio(-1, 2), 2]) for _ in range(room.size)]
                        for _ in range(seeded.randint(1, room.size + 1))]
                wanted = kept_of(room, rows) == plain_steps(plain(rows))
                seen.add(wanted)
                self.assertIs(is_kept(room=room, value=rows), wanted)
        self.assertEqual(seen, {True, False})

    def test_any_value(self):
        for room in (UPPER, ROOMS["nought"], ROOMS["half"], ROOMS["left"]):
            def wanted(value, room=room):
                if not support.is_grid(value) or (len(value) and len(value[0]) != room.size):
                    return False
                return kept_of(room, value) == plain_steps(plain(value))

            self.tells(lambda value, room=room: is_kept(room, value), wanted)
        self.assertIs(is_kept(UPPER, [[1, 0]] * 64), True)
        self.assertIs(is_kept(UPPER, [[1, 0]] * 65), False)
        self.assertIs(is_kept(UPPER, [[1, False]]), False)

    def test_whole_of_a_side_part(self):
        for seed, room in enumerate(ROOMS.values()):
            part = side_of(room.table, [numbers_of(seed, room.table.size)])
            rows = [row for mixture in part + dying(room.table) for row in acts(room, mixture)]
            whole = [row for mixture in part for row in acts(room, mixture)]
            self.assertIs(is_kept(room, steps(whole)), True)
            self.assertIs(is_kept(room, steps(rows)), True)


class WithinAndBehind(Case):
    def test_within(self):
        for seed, room in enumerate(ROOMS.values()):
            for told in kept_grids(room, seed):
                if not told:
                    continue
                made = self.call(room_within, room, ratios(told))
                self.assertEqual(made, room_within(room, other_grid(told, seed)))
                self.assertEqual(made.table, room.table)
                self.assertEqual(made.size, len(told))
                # the rows, made by what a square tells, are what the thing makes of the row
                for square, small in zip(squares_of(room), squares_of(made)):
                    for row, amounts in zip(told, small):
                        self.assertEqual(plain_sum(amounts, told, room.size), through(row, square))

    def test_behind(self):
        for seed, room in enumerate(ROOMS.values()):
            for told in kept_grids(room, seed):
                if len(told) == room.size:
                    continue
                made = self.call(room_behind, room, ratios(told))
                self.assertEqual(made, room_behind(room, other_grid(told, seed)))
                self.assertEqual(made.table, room.table)
                heads = [next(p for p in range(room.size) if row[p]) for row in told]
                places = [p for p in range(room.size) if p not in heads]
                self.assertEqual(made.size, len(places))
                for square, small in zip(squares_of(room), squares_of(made)):
                    for place, row in zip(places, small):
                        left = square[place]
                        for head, step in zip(heads, told):
                            left = [a - square[place][head] * b for a, b in zip(left, step)]
                        self.assertEqual([left[p] for p in places], row)
                        self.assertEqual([left[p] for p in heads], [0] * len(heads))

    def test_traces_add_up(self):
        for seed, room in enumerate(ROOMS.values()):
            for told in kept_grids(room, seed):
                if told and len(told) < room.size:
                    grid = ratios(told)
                    added = [a + b for a, b in zip(traces_of(room_within(room, grid)), traces_of(room_behind(room, grid)))]
                    self.assertEqual(added, traces_of(room))

    def test_all_and_nothing(self):
        for room in ROOMS.values():
            whole, nought = ratios(unit(room.size)), [[0] * room.size] * 2
            self.assertEqual(room_within(room, whole), room)
            self.assertEqual(room_within(room, ratios([[2 * n for n in row] for row in unit(room.size)])), room)
            for empty in ([], (), nought):
                self.assertEqual(room_behind(room, empty), room)
                self.fails(NothingLeft, room_within, room, empty)
            self.fails(NothingLeft, room_behind, room, whole)
            self.fails(NothingLeft, room_behind, room, whole + nought + whole)

    def test_not_kept(self):
        for room, grid in [(UPPER, [[0, 1]]), (UPPER, [[1, 1]]), (UPPER, [[0, 0], [3, 1]]), (ROOMS["squares"], [[1, 2]]),
                           (ROOMS["powers"], [[1, 0, 0]]), (ROOMS["powers"], [[0, 1, 0]])]:
            for function in (room_within, room_behind):
                self.fails(NotKept, function, room, grid)
        self.assertEqual(room_within(ROOMS["powers"], [[0, 1, 0], [0, 0, 1]]).size, 2)

    def test_wrong(self):
        for function in (room_within, room_behind):
            for value in KINDS:
                self.fails(InvalidRoom, function, value, None, value=value)
                if not support.is_grid(value) or (len(value) and len(value[0]) != 2):
                    self.fails(InvalidGrid, function, UPPER, value, value=value)
            for value in ([[1, 0, 0]], [[1]], [[]], [[1, 0], [0]], [[1, True]], [[1, 0]] * 65):
                self.fails(InvalidGrid, function, UPPER, value, value=value)
            self.assertEqual(function(ROOMS["two uppers"], [[1, 0, 0, 0], [0, 0, 2, 0]] * 32).size, 2)


class Beside(Case):
    def test_beside(self):
        for name in ROOMS:
            for first in same_table(name)[:4]:
                for second in same_table(name)[-3:]:
                    if first.size + second.size > 6:
                        self.fails(TooMany, room_beside, first, second, what="rows", limit=6)
                        continue
                    made = self.call(room_beside, first, second)
                    self.assertEqual(made, beside(first, second))
                    added = [a + b for a, b in zip(traces_of(first), traces_of(second))]
                    self.assertEqual(traces_of(made), added)
                    # each of both stands within, and behind the other one
                    ahead = ratios(unit(made.size)[:first.size])
                    self.assertEqual(room_within(made, ahead), first)
                    self.assertEqual(room_behind(made, ahead), second)

    def test_wrong(self):
        large = ROOMS["two uppers"]
        for value in KINDS:
            self.fails(InvalidRoom, room_beside, value, UPPER, value=value)
            self.fails(InvalidRoom, room_beside, value, None, value=value)
            self.fails(InvalidRoom, room_beside, UPPER, value, value=value)
        self.fails(UnlikeTables, room_beside, UPPER, ROOMS["squares"])
        self.fails(UnlikeTables, room_beside, UPPER, ROOMS["upper in letters"])
        # unlike tables ahead of too many places
        self.fails(UnlikeTables, room_beside, large, ROOMS["own squares"])
        self.fails(TooMany, room_beside, large, ROOMS["own upper"], what="rows", limit=6)
        self.assertEqual(room_beside(large, UPPER).size, 6)


class Numbers(Case):
    def test_great_numbers(self):
        table = line_table([Ratio(-999999, 999983), 0, 1])
        room = in_places(table_in_letters(own(tables_beside(table, numbers_table(1))), 41), 42)
        self.assertEqual(Room(room.table, room.squares()), room)
        self.assertEqual(plain(traces_of(room)), [plain_trace(square) for square in squares_of(room)])
        self.assertEqual(acts(Room(ONE, [[[1]]]), [Ratio(999999, 999983)]), [[Ratio(999999, 999983)]])


if __name__ == "__main__":
    unittest.main()
