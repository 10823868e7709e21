"""[78]: maps from rooms to rooms of the same table."""

import itertools
import random
import unittest
from fractions import Fraction

from producttables.errors import InvalidRoom, UnlikeTables
from producttables.maps import is_map, maps
from producttables.makers import line_table, noughts, numbers_table
from producttables.ratios import Ratio
from producttables.rooms import Room, is_full, is_kept
from producttables.lots import is_split, lots, nought_lot
from producttables.steps import killed, steps
from producttables.tables import one
from roomsamples import (
    MOVED, POWERS, ROOMS, ROOT, SQUARES, UPPER, UPPER_3, beside, in_places, nought_room, own, product, same_table,
    single, squares_of, unit,
)
from support import KINDS, Case, is_numbers, numbers_of, plain, plain_steps, plain_sum, ratios

PAIRS = [(first, second) for name in ROOMS for first in same_table(name)[:1] for second in same_table(name)]


def rows_of(told, wide):
    """A row of the grid of all maps as a map."""
    return [told[at:at + wide] for at in range(0, len(told), wide)]


def leads_along(room, other, rows):
    """The words of [78], for rows of Fractions."""
    return all(product(square, rows) == product(rows, there)
               for square, there in zip(squares_of(room), squares_of(other)))


def plain_maps(room, other):
    """The steps of all maps, by the conditions for all their numbers at once."""
    wide = room.size * other.size
    conditions = []
    for square, there in zip(squares_of(room), squares_of(other)):
        for p in range(room.size):
            for q in range(other.size):
                row = [Fraction(0)] * wide
                for r in range(room.size):
                    row[r * other.size + q] += square[p][r]
                for r in range(other.size):
                    row[p * other.size + r] -= there[r][q]
                conditions.append(row)
    told = plain_steps([row[::-1] for row in conditions])
    heads = [next(p for p in range(wide) if row[p]) for row in told]
    found = []
    for free in [p for p in range(wide) if p not in heads][::-1]:
        made = [Fraction(int(p == free)) for p in range(wide)]
        for head, row in zip(heads, told):
            made[head] = -row[free]
        found.append(made[::-1])
    return ratios(found)


class Maps(Case):
    def test_all_maps(self):
        many = set()
        for first, second in PAIRS:
            if first.size * second.size > 20:
                continue
            told = self.call(maps, first, second)
            self.assertEqual(told, plain_maps(first, second))
            self.assertEqual({type(number) for row in told for number in row} - {Ratio}, set())
            self.assertEqual(told, steps(told))
            many.add(len(told))
            for row in told:
                self.assertIs(leads_along(first, second, plain(rows_of(row, second.size))), True)
                self.assertIs(is_map(first, second, rows_of(row, second.size)), True)
        self.assertGreater(len(many), 4)

    def test_great_rooms(self):
        for first, second in [(beside(UPPER, UPPER, UPPER), beside(*[single(UPPER.table, 0)] * 6)),
                              (ROOMS["upper three in both"], ROOMS["upper three in both"]),
                              (own(UPPER_3.table), beside(UPPER_3, UPPER_3)), (own(MOVED.table), own(MOVED.table)),
                              (nought_room(UPPER.table, 6), nought_room(UPPER.table, 6))]:
            self.assertEqual(maps(first, second), plain_maps(first, second))

    def test_told(self):
        table = UPPER.table
        ahead, rest = single(table, 0), single(table, 2)
        for first, second, wanted in [
                (UPPER, UPPER, [[1, 0, 0, 1]]), (ahead, rest, []), (ahead, ahead, [[1]]), (ahead, UPPER, [[1, 0]]),
                (rest, UPPER, []), (UPPER, rest, [[0, 1]]), (UPPER, ahead, []), (SQUARES, SQUARES, [[1, 0, 0, 1]]),
                (ROOT, ROOT, [[1, 0, 0, Ratio(1)], [0, 1, 2, 0]]),
                (nought_room(table, 1), nought_room(table, 2), [[1, 0], [0, 1]]), (nought_room(table, 2), UPPER, []),
                (POWERS, POWERS, [[1, 0, 0, 0, 1, 0, 0, 0, 1], [0, 1, 0, 0, 0, 1, 0, 0, 0], [0, 0, 1] + [0] * 6])]:
            self.assertEqual(maps(first, second), steps(wanted))

    def test_other_places(self):
        for seed, name in enumerate(["upper", "squares", "moved", "root", "powers", "corner"]):
            first = ROOMS[name]
            second = in_places(first, seed + 60)
            for there, back in itertools.product(maps(first, second), maps(second, first)):
                made = product(plain(rows_of(there, first.size)), plain(rows_of(back, first.size)))
                # maps behind one another are maps
                self.assertIs(is_map(first, first, ratios(made)), True)
            self.assertEqual(len(maps(first, second)), len(maps(first, first)))

    def test_what_they_lead_to(self):
        for first, second in PAIRS:
            if first.size * second.size > 24:
                continue
            for row in maps(first, second)[:3]:
                rows = rows_of(row, second.size)
                self.assertIs(is_kept(second, rows), True)
                columns = [list(column) for column in zip(*rows)]
                self.assertIs(is_kept(first, killed(columns, first.size)), True)

    def test_from_own_rooms(self):
        # from the own room of a table with a one to a full room: as many maps as places
        seen = 0
        for room in ROOMS.values():
            if room.table.size > 6 or one(room.table) is None:
                continue
            told = maps(own(room.table), room)
            if is_full(room):
                self.assertEqual(len(told), room.size)
                seen += 1
            self.assertLessEqual(len(told), room.size)
        self.assertGreater(seen, 10)

    def test_nothing_in_common(self):
        seen = 0
        for first, second in PAIRS:
            if not is_split(first) or not is_split(second):
                continue
            blocks = any(a and b for a, b in zip(lots(first), lots(second)))
            if not blocks and not (nought_lot(first) and nought_lot(second)):
                self.assertEqual(maps(first, second), [])
                self.assertIs(is_map(first, second, [[0] * second.size] * first.size), True)
                seen += 1
        self.assertGreater(seen, 1)
        self.assertEqual(maps(single(UPPER.table, 0), nought_room(UPPER.table, 3)), [])

    def test_tables_of_noughts(self):
        table = noughts(2)
        first = Room(table, [[[0, 1], [0, 0]], [[0, 0], [0, 0]]])
        self.assertEqual(maps(first, first), plain_maps(first, first))
        self.assertEqual(len(maps(first, nought_room(table, 1))), 1)
        self.assertEqual(maps(first, nought_room(table, 1)), ratios([[1, 0]]))

    def test_many_places_wanted(self):
        # rooms of which no one place, with what is made of it, makes all
        table = numbers_table(1)
        for size, other in [(1, 6), (6, 1), (4, 3), (6, 6)]:
            first, second = Room(table, ratios([unit(size)])), Room(table, ratios([unit(other)]))
            self.assertEqual(maps(first, second), ratios(unit(size * other)))
        turned = in_places(beside(own(line_table([-2, 0, 1])), own(line_table([-2, 0, 1]))), 90)
        self.assertEqual(maps(turned, turned), plain_maps(turned, turned))
        self.assertEqual(len(maps(turned, turned)), 8)


class Any(Case):
    def test_sums_and_bent_ones(self):
        for seed, (first, second) in enumerate(PAIRS):
            if first.size * second.size > 16:
                continue
            told = plain(maps(first, second))
            seeded = random.Random(seed)
            amounts = plain(numbers_of(seed, len(told), 3, 2))
            row = plain_sum(amounts, told, first.size * second.size)
            self.assertIs(self.call(is_map, first, second, ratios(rows_of(row, second.size))), True)
            place = seeded.randrange(len(row))
            row[place] += Fraction(1, 2)
            bent = rows_of(row, second.size)
            self.assertIs(is_map(first, second, ratios(bent)), leads_along(first, second, bent))

    def test_told(self):
        for value, wanted in [
                ([[3, 0], [0, 3]], True), (([3, 0], (0, Ratio(3))), True), ([[0, 0], [0, 0]], True),
                ([[1, 0], [0, 2]], False), ([[1, 0], [1, 1]], False), ([[1, 0]], False), ([], False), ([[1], [1]], False),
                ([[1, 0, 0], [0, 1, 0]], False), ([[1, 0], [0, 1], [0, 0]], False), ([[True, 0], [0, True]], False),
                ([[1, False], [0, 1]], False), ([[1, 0], [0, None]], False), ([1, 0, 0, 1], False), (None, False),
                ({0: [1, 0], 1: [0, 1]}, False), ([[1, 0], {0: 0, 1: 1}], False), ([["1", 0], [0, 1]], False)]:
            self.assertIs(is_map(UPPER, UPPER, value), wanted, value)
            self.assertIs(is_map(room=UPPER, other=UPPER, value=value), wanted, value)

    def test_any_value(self):
        def wanted(value):
            if type(value) not in (list, tuple) or len(value) != 2 or not all(is_numbers(row, 2, 2) for row in value):
                return False
            (a, b), (c, d) = plain(value)
            return a == d and b == c == 0

        self.tells(lambda value: is_map(UPPER, UPPER, value), wanted)
        one_place = nought_room(UPPER.table, 1)
        self.tells(lambda value: is_map(one_place, one_place, value),
                   lambda value: type(value) in (list, tuple) and len(value) == 1 and is_numbers(value[0], 1, 1))

    def test_wrong(self):
        for value in KINDS:
            self.fails(InvalidRoom, maps, value, None, value=value)
            self.fails(InvalidRoom, maps, UPPER, value, value=value)
            self.fails(InvalidRoom, is_map, value, None, None, value=value)
            self.fails(InvalidRoom, is_map, UPPER, value, None, value=value)
        for other in (SQUARES, ROOMS["upper in letters"], ROOMS["nought empty"]):
            self.fails(UnlikeTables, maps, UPPER, other)
            self.fails(UnlikeTables, is_map, UPPER, other, None)
            self.fails(UnlikeTables, is_map, UPPER, other, [[0, 0], [0, 0]])


if __name__ == "__main__":
    unittest.main()
