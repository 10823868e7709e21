"""[74], [75], [76], [77]: lots and nought lots, split rooms, layers, and when lots are the same."""

import itertools
import unittest

from producttables.dying import dying
from producttables.errors import InvalidRoom, UnlikeTables
from producttables.lifting import lifted
from producttables.lots import is_split, layer_lots, layers, lots, nought_lot, same_lots
from producttables.makers import beside as tables_beside, behind, crossed, line_table, noughts, numbers_table
from producttables.parting import block_sizes, parting
from producttables.ratios import Ratio
from producttables.rooms import Room, room_behind, room_within, traces_of
from roomsamples import (
    EMPTY, FROM_ONE, MOVED, POWERS, ROOMS, ROOT, SQUARES, UPPER, UPPER_3, beside, does, in_places, kept_grids,
    nought_room, own, same_table, single, squares_of, table_in_letters, through, trace, unit,
)
from samples import SAMPLES
from support import KINDS, Case, plain, plain_steps, ratios

# lots in the sequence of the parting, the nought lot, and the layers with their lots
TOLD = {
    "upper": ([1, 1], 0, [([1, 0], 0), ([0, 1], 0)]),
    "upper three": ([1, 1, 1], 0, [([1, 0, 0], 0), ([0, 1, 0], 0), ([0, 0, 1], 0)]),
    "squares": ([2], 0, [([2], 0)]),
    "corner": ([1], 1, [([0], 1), ([1], 0)]),
    "moved": ([0, 1, 2], 0, [([0, 1, 2], 0)]),
    "own moved": ([1, 1, 4], 0, [([1, 1, 4], 0)]),
    "powers": ([3], 0, [([1], 0)] * 3),
    "empty": ([], 3, [([], 2), ([], 1)]),
    "from one": ([], 3, [([], 1)] * 3),
    "root": ([2], 0, [([2], 0)]),
    "root thrice": ([6], 0, [([6], 0)]),
    "four": ([4], 0, [([4], 0)]),
    "half": ([1], 0, [([1], 0)]),
    "left": ([2], 0, [([2], 0)]),
    "right": ([1], 1, [([1], 0), ([0], 1)]),
    "own upper": ([1, 2], 0, [([1, 1], 0), ([0, 1], 0)]),
    "own upper three": ([1, 2, 3], 0, [([1, 1, 1], 0), ([0, 1, 1], 0), ([0, 0, 1], 0)]),
    "own corner": ([2], 0, [([2], 0)]),
    "own squares": ([4], 0, [([4], 0)]),
    "nought": ([0, 0], 2, [([0, 0], 2)]),
    "nought squares": ([0], 3, [([0], 3)]),
    "nought empty": ([], 2, [([], 2)]),
    "two uppers": ([2, 2], 0, [([2, 0], 0), ([0, 2], 0)]),
    "upper and single": ([1, 3], 0, [([1, 2], 0), ([0, 1], 0)]),
    "upper, single, nought": ([2, 1], 1, [([2, 0], 1), ([0, 1], 0)]),
    "singles": ([1, 2, 1], 0, [([1, 2, 1], 0)]),
    "squares and nought": ([4], 2, [([4], 2)]),
    "moved and nought": ([0, 1, 2], 1, [([0, 1, 2], 1)]),
    "corner and single": ([2], 2, [([1], 2), ([1], 0)]),
    "powers and nought": ([3], 2, [([1], 2), ([1], 0), ([1], 0)]),
    "powers twice": ([6], 0, [([2], 0)] * 3),
    "empty and nought": ([], 4, [([], 3), ([], 1)]),
    "four and nought": ([4], 2, [([4], 2)]),
    "round": ([1, 2], 0, [([1, 2], 0)]),
}


def plain_layers(room):
    """The sizes of what the dying part makes of all, of that, and so on, the plain way."""
    dead, told, found = [does(room, row) for row in dying(room.table)], unit(room.size), []
    while told:
        found.append(told)
        told = plain_steps([through(row, square) for square in dead for row in told])
    return found


class Lots(Case):
    def test_told(self):
        for name, (counts, nought, _) in TOLD.items():
            room = ROOMS[name]
            self.assertEqual((name, self.call(lots, room)), (name, counts))
            self.assertEqual((name, self.call(nought_lot, room)), (name, nought))

    def test_in_other_places(self):
        # other lists for the places change no lot
        for seed, (name, (counts, nought, _)) in enumerate(TOLD.items()):
            room = in_places(ROOMS[name], seed)
            self.assertEqual(lots(room), counts)
            self.assertEqual(nought_lot(room), nought)

    def test_lifted_own_squares(self):
        # a lot is how many places an own square makes
        for room in ROOMS.values():
            table, told = room.table, lots(room)
            if len(dying(table)) == table.size:
                self.assertEqual(told, [])
                self.assertEqual(nought_lot(room), room.size)
                continue
            squares = parting(behind(table, dying(table)))
            self.assertEqual(len(told), len(squares))
            for lot, mixture in zip(told, lifted(table, squares)):
                self.assertIs(type(lot), int)
                self.assertEqual(lot, trace(does(room, mixture)))
                self.assertEqual(lot, len(plain_steps(does(room, mixture))))
            self.assertEqual(nought_lot(room), room.size - sum(told))
            self.assertIs(type(nought_lot(room)), int)

    def test_own_rooms(self):
        # in an own room where nothing dies each block is held by its own places
        for name, table in SAMPLES.items():
            if table.size <= 6 and not dying(table):
                self.assertEqual(lots(own(table)), [size for size, _ in block_sizes(table)])

    def test_within_and_behind(self):
        for seed, room in enumerate(ROOMS.values()):
            for told in kept_grids(room, seed)[2:]:
                if not told or len(told) == room.size:
                    continue
                ahead, rest = room_within(room, ratios(told)), room_behind(room, ratios(told))
                self.assertEqual([a + b for a, b in zip(lots(ahead), lots(rest))], lots(room))
                self.assertEqual(nought_lot(ahead) + nought_lot(rest), nought_lot(room))

    def test_sums(self):
        for name in ("upper", "moved", "squares", "powers", "corner", "empty", "root", "left", "upper in letters"):
            for first, second in itertools.product(same_table(name), repeat=2):
                if first.size + second.size <= 6:
                    both = beside(first, second)
                    self.assertEqual(lots(both), [a + b for a, b in zip(lots(first), lots(second))])
                    self.assertEqual(nought_lot(both), nought_lot(first) + nought_lot(second))

    def test_blocks_beside_one_another(self):
        table = tables_beside(tables_beside(numbers_table(1), noughts(1)), numbers_table(2))
        # the parting, rising: that of the two by two numbers, then that of the number
        for ahead, times_two, nought in [(2, 1, 1), (0, 2, 0), (3, 1, 1), (1, 0, 2)]:
            rooms = [single(table, 0)] * ahead + [nought_room(table, 1)] * nought
            for _ in range(times_two):
                squares = [[[0, 0], [0, 0]]] * 2 + squares_of(SQUARES)
                rooms.append(Room(table, ratios(squares)))
            for room in (beside(*rooms), in_places(beside(*rooms), ahead)):
                self.assertEqual((lots(room), nought_lot(room)), ([2 * times_two, ahead], nought))
                self.assertIs(is_split(room), True)

    def test_fractions(self):
        half = Ratio(1, 2)
        room = Room(numbers_table(1), [[[half, half], [half, half]]])
        self.assertEqual((lots(room), nought_lot(room), is_split(room)), ([1], 1, True))

    def test_tables_in_letters(self):
        # whatever the letters: the same lots, perhaps in another sequence
        for seed, name in enumerate(["upper", "upper three", "moved", "corner", "powers", "singles", "squares", "right"]):
            room = table_in_letters(ROOMS[name], seed + 50)
            self.assertEqual(sorted(lots(room)), sorted(TOLD[name][0]))
            self.assertEqual(nought_lot(room), TOLD[name][1])


class Split(Case):
    def test_told(self):
        for name, (_, _, told) in TOLD.items():
            self.assertIs(self.call(is_split, ROOMS[name]), len(told) == 1)

    def test_words(self):
        for room in ROOMS.values():
            wanted = not any(number for row in dying(room.table) for one in does(room, row) for number in one)
            self.assertIs(is_split(room), wanted)
            self.assertIs(is_split(in_places(room, 5)), wanted)

    def test_behind_what_dies(self):
        for room in ROOMS.values():
            made = [row for mixture in dying(room.table) for row in ratios(does(room, mixture))]
            if len(plain_steps(plain(made))) < room.size:
                self.assertIs(is_split(room_behind(room, made)), True)


class Layers(Case):
    def test_told(self):
        for name, (_, _, told) in TOLD.items():
            sizes = [sum(sum(counts) + nought for counts, nought in told[at:]) for at in range(len(told))]
            for room in (ROOMS[name], in_places(ROOMS[name], 7)):
                self.assertEqual((name, layers(room)), (name, sizes))
                self.assertEqual((name, layer_lots(room)), (name, [counts + [nought] for counts, nought in told]))
            self.call(layers, ROOMS[name])
            self.call(layer_lots, ROOMS[name])

    def test_words(self):
        for room in ROOMS.values():
            falling = plain_layers(room)
            self.assertEqual(layers(room), [len(told) for told in falling])
            found = []
            for at, told in enumerate(falling):
                here = room_within(room, ratios(told))
                if at + 1 < len(falling):
                    # what the next one has, told by the rows of this one
                    rows = [[row[next(p for p in range(room.size) if step[p])] for step in told]
                            for row in falling[at + 1]]
                    here = room_behind(here, ratios(rows))
                self.assertIs(is_split(here), True)
                found.append(lots(here) + [nought_lot(here)])
            self.assertEqual(layer_lots(room), found)
            self.assertEqual({type(count) for row in found for count in row} | {type(n) for n in layers(room)}, {int})
            added = [sum(column) for column in zip(*layer_lots(room))]
            self.assertEqual(added, lots(room) + [nought_lot(room)])

    def test_many_layers(self):
        room = own(line_table([0] * 6 + [1]))
        self.assertEqual(layers(room), [6, 5, 4, 3, 2, 1])
        self.assertEqual(layer_lots(room), [[1, 0]] * 6)
        table = crossed(numbers_table(1), line_table([0, 0, 0, 0, 1]))
        self.assertEqual(layers(beside(own(table), nought_room(table, 1))), [5, 3, 2, 1])
        # what dies makes more than one place of one
        squares = [[[0] * 4 for _ in range(4)] for _ in range(3)]
        for at in range(3):
            squares[at][0][at + 1] = 1
        room = Room(noughts(3), squares)
        self.assertEqual(layers(room), [4, 3])
        self.assertEqual(layer_lots(room), [[1], [3]])


class Same(Case):
    def test_by_lots(self):
        seen = set()
        for name in ROOMS:
            for first in same_table(name)[:5]:
                for second in same_table(name)[-5:]:
                    wanted = lots(first) == lots(second) and nought_lot(first) == nought_lot(second)
                    self.assertIs(self.call(same_lots, first, second), wanted)
                    self.assertIs(first.size == second.size and traces_of(first) == traces_of(second), wanted)
                    seen.add((wanted, first == second))
        self.assertEqual(seen, {(True, True), (True, False), (False, False)})

    def test_unlike_rooms_with_the_same_lots(self):
        for first, second in [
                (UPPER, beside(single(UPPER.table, 0), single(UPPER.table, 2))), (UPPER, in_places(UPPER, 3)),
                (POWERS, beside(*[single(POWERS.table, 0)] * 3)), (EMPTY, nought_room(EMPTY.table, 3)),
                (MOVED, in_places(MOVED, 5)), (ROOT, in_places(ROOT, 7)),
                (UPPER_3, beside(*[single(UPPER_3.table, place) for place in (5, 0, 3)]))]:
            self.assertIs(first == second, False)
            self.assertIs(same_lots(first, second), True)
            self.assertIs(same_lots(second, first), True)

    def test_unlike_lots(self):
        table = UPPER.table
        for first, second in [
                (UPPER, nought_room(table, 2)), (UPPER, beside(single(table, 0), single(table, 0))),
                (nought_room(table, 1), nought_room(table, 2)), (UPPER, beside(UPPER, nought_room(table, 1))),
                (single(table, 0), single(table, 2)), (EMPTY, nought_room(EMPTY.table, 2))]:
            self.assertIs(same_lots(first, second), False)
            self.assertIs(same_lots(second, first), False)

    def test_across_layers(self):
        first = beside(UPPER, single(UPPER.table, 0))
        second = beside(*[single(UPPER.table, place) for place in (0, 2, 0)])
        self.assertIs(same_lots(first, second), True)
        self.assertNotEqual(layer_lots(first), layer_lots(second))


class Wrong(Case):
    def test_rooms(self):
        for value in KINDS:
            for function in (lots, nought_lot, is_split, layers, layer_lots):
                self.fails(InvalidRoom, function, value, value=value)
            self.fails(InvalidRoom, same_lots, value, None, value=value)
            self.fails(InvalidRoom, same_lots, UPPER, value, value=value)

    def test_tables(self):
        self.fails(UnlikeTables, same_lots, UPPER, SQUARES)
        self.fails(UnlikeTables, same_lots, EMPTY, FROM_ONE)
        self.fails(UnlikeTables, same_lots, UPPER, ROOMS["upper in letters"])
        self.fails(UnlikeTables, same_lots, nought_room(noughts(2), 1), nought_room(noughts(3), 1))


if __name__ == "__main__":
    unittest.main()
