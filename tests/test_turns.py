"""[81], [82], [83]: groups of turns, their tables, rings, and kept grids beside kept ones."""

import itertools
import random
import unittest

from producttables.dying import dying
from producttables.errors import InvalidGrid, InvalidRoom, InvalidTurns, NotGroup, NotKept
from producttables.lefts import trace
from producttables.makers import in_letters, noughts, numbers_table, upper_table
from producttables.parting import blocks
from producttables.ratios import Ratio
from producttables.rooms import Room, is_kept, own_room, room_beside
from producttables.steps import joined, rank, shared
from producttables.tables import Table, is_commuting
from producttables.turns import beside_room, group_table, is_turns, rings
from roomsamples import (
    ROOMS, ROUNDS, beside, in_places, kept_grids, kept_of, nought_room, other_grid, own, places_moved, table_in_letters, unit,
)
from samples import SAMPLES, by_places
from support import KINDS, Case, numbers_of, plain_steps, ratios
import support


def closed(turns):
    """The group that these turns make."""
    found = [tuple(range(len(turns[0])))]
    while True:
        more = {tuple(a[p] for p in b) for a in found + turns for b in found + turns} - set(found)
        if not more:
            return found
        found.extend(sorted(more))


# each group of up to eight turns but for names; with the lots of its rings, told by their sizes
GROUPS = {
    "one": ([(0,)], [[1]]),
    "one of six": ([tuple(range(6))], [[1]]),
    "two": ([(1, 0)], [[1], [2]]),
    "three": ([(1, 2, 0)], [[1], [3]]),
    "four": ([(1, 2, 3, 0)], [[1], [2], [4]]),
    "two by two": ([(1, 0, 2, 3), (0, 1, 3, 2)], [[1], [2], [2], [2]]),
    "two by two, moving all": ([(1, 0, 3, 2), (2, 3, 0, 1)], [[1], [2], [2], [2]]),
    "five": ([(1, 2, 3, 4, 0)], [[1], [5]]),
    "six in a round": ([(1, 2, 0, 4, 3)], [[1], [2], [3], [6]]),
    "six": ([(1, 2, 0), (1, 0, 2)], [[1], [2, 2, 2], [3]]),
    "six, moving all": ([(1, 2, 0, 4, 5, 3), (3, 5, 4, 0, 2, 1)], [[1], [2, 2, 2], [3]]),
    "two by two by two": ([(1, 0, 2, 3, 4, 5), (0, 1, 3, 2, 4, 5), (0, 1, 2, 3, 5, 4)], [[1]] + [[2]] * 7),
    "four by two": ([(1, 2, 3, 0, 4, 5), (0, 1, 2, 3, 5, 4)], [[1], [2], [2], [2], [4], [4]]),
    "of a square": ([(1, 2, 3, 0), (0, 3, 2, 1)], [[1], [2], [2, 2], [2, 2], [4]]),
}
SIZES = {"one": 1, "one of six": 1, "two": 2, "three": 3, "four": 4, "two by two": 4, "two by two, moving all": 4,
         "five": 5, "six in a round": 6, "six": 6, "six, moving all": 6, "two by two by two": 8, "four by two": 8,
         "of a square": 8}


def turned_places(turns, seed):
    """The same turns with places renamed, in another sequence."""
    seeded = random.Random(seed)
    names = list(range(len(turns[0])))
    seeded.shuffle(names)
    found = []
    for turn in turns:
        renamed = [None] * len(turn)
        for place, image in enumerate(turn):
            renamed[names[place]] = names[image]
        found.append(renamed)
    seeded.shuffle(found)
    return found


def groups():
    """Each group as it stands, and with places renamed, in other sequences."""
    for name, (makers, told) in GROUPS.items():
        turns = [list(turn) for turn in closed(makers)]
        yield name, turns, told
        for seed in range(2):
            yield name, turned_places(turns, seed), told


def plain_is_turns(value):
    """The words of [81]."""
    if type(value) not in (list, tuple) or not 1 <= len(value) <= 8:
        return False
    for turn in value:
        if type(turn) not in (list, tuple) or not 1 <= len(turn) <= 6:
            return False
        if not all(type(n) is int for n in turn) or sorted(turn) != list(range(len(turn))):
            return False
    turns = [tuple(turn) for turn in value]
    if len({len(turn) for turn in turns}) > 1 or len(set(turns)) < len(turns):
        return False
    return all(tuple(a[p] for p in b) in turns for a in turns for b in turns)


def plain_rings(turns):
    """The words of [83], by the turns themselves."""
    told = [tuple(turn) for turn in turns]
    found = []
    for turn in told:
        ring, made = [], turn
        while made not in ring:
            ring.append(made)
            made = tuple(made[p] for p in turn)
        lot = []
        for by in told:
            back = tuple(by.index(p) for p in range(len(by)))
            # by behind each of them, all that behind what undoes it
            other = sorted(told.index(tuple(by[one[back[p]]] for p in range(len(by)))) for one in ring)
            if other not in lot:
                lot.append(other)
        lot.sort()
        if lot not in found:
            found.append(lot)
    return sorted(found)


class Turns(Case):
    def test_groups(self):
        for name, turns, _ in groups():
            self.assertEqual(len(turns), SIZES[name])
            self.assertIs(self.call(is_turns, turns, counts=True), True)
            self.assertIs(is_turns([tuple(turn) for turn in turns]), True)

    def test_bent_groups(self):
        for name, turns, _ in groups():
            seeded = random.Random(len(turns))
            moved = [turn for turn in turns if turn != sorted(turn)]
            for turn in turns:
                left = [one for one in turns if one != turn]
                self.assertIs(is_turns(left), plain_is_turns(left))
                self.assertIs(is_turns(turns + [turn]), False)
                self.assertIs(is_turns(turns + [tuple(turn)]), False)
            for turn in moved[:3]:
                for _ in range(3):
                    bent = [list(one) for one in turns]
                    place = seeded.randrange(len(turn))
                    bent[turns.index(turn)][place] = seeded.choice([-1, 0, 1, len(turn), len(turn) - 1])
                    self.assertIs(is_turns(bent), plain_is_turns(bent))
                shorter = [list(one) for one in turns]
                shorter[turns.index(turn)] = turn[:-1]
                self.assertIs(is_turns(shorter), False)
            for word in (True, False, None, "0", Ratio(0), Ratio(1)):
                bent = [list(one) for one in turns]
                bent[0][0] = word
                self.assertIs(is_turns(bent), False)

    def test_told(self):
        for value, wanted in [
                ([[0]], True), ([[0, 1]], True), ([[1, 0]], False), ([[0, 1], [1, 0]], True), ([[1, 0], [0, 1]], True),
                ([[0, 1], [0, 1]], False), ([[0, 1], (0, 1)], False), ([[0, 1, 2], [1, 2, 0]], False), ([], False),
                ([[]], False), ([list(range(6))], True), ([list(range(7))], False), ([[0], [0, 1]], False),
                ([[0, 1], [1, 1]], False), ([[0, 1], [1, 2]], False), ([[0, 1, 2], [1, 0, 2], [0, 2, 1]], False),
                ([[0, 1], [True, 0]], False), ([[0, 1], [1, False]], False), ([[0, Ratio(1)]], False),
                ([[0, 1], None], False), ({0: [0, 1]}, False), ([{0: 0, 1: 1}], False), ("0", False), ([["0"]], False)]:
            self.assertIs(is_turns(value), wanted, value)
        self.assertIs(is_turns([list(turn) for turn in itertools.permutations(range(4))][:8]), False)

    def test_nine_turns(self):
        nine = closed([(1, 2, 0, 3, 4, 5), (0, 1, 2, 4, 5, 3)])
        self.assertEqual(len(nine), 9)
        self.assertIs(is_turns(nine), False)
        self.fails(InvalidTurns, group_table, nine, value=nine)
        self.fails(InvalidTurns, rings, nine, value=nine)

    def test_any_value(self):
        self.tells(is_turns, plain_is_turns)
        for value in KINDS + [[[0, 1, 2], [1, 2, 0]], [[1, 0]], [[0, 1], [0, 1]]]:
            if not plain_is_turns(value):
                self.fails(InvalidTurns, group_table, value, value=value)
                self.fails(InvalidTurns, rings, value, value=value)


class Tables(Case):
    def test_group_tables(self):
        for name, turns, _ in groups():
            table = self.call(group_table, turns, counts=True)
            self.assertIs(type(table), Table)
            self.assertEqual(table.size, len(turns))
            for i, first in enumerate(turns):
                for j, second in enumerate(turns):
                    # the other one first, then the one
                    behind = [first[second[place]] for place in range(len(first))]
                    wanted = [1 if turn == behind else 0 for turn in turns]
                    self.assertEqual(table.rows()[i][j], ratios(wanted))

    def test_what_lives(self):
        for name, turns, _ in groups():
            table = group_table(turns)
            self.assertEqual(dying(table), [])
            for place, turn in enumerate(turns):
                wanted = len(turns) if turn == sorted(turn) else 0
                self.assertEqual(trace(table, table.thing(place)), Ratio(wanted))
            self.assertIs(is_commuting(table), name not in ("six", "six, moving all", "of a square"))

    def test_told(self):
        first = group_table([[0, 1, 2], [1, 2, 0], [2, 0, 1], [1, 0, 2], [0, 2, 1], [2, 1, 0]])
        # 0 and 1 changed, behind all turned round: 0 -> 1 -> 0, 1 -> 2, 2 -> 0 -> 1
        self.assertEqual(first.rows()[3][1], first.thing(4))
        self.assertEqual(first.rows()[1][3], first.thing(5))
        self.assertEqual(group_table([[1, 0], [0, 1]]), Table([[[0, 1], [1, 0]], [[1, 0], [0, 1]]]))


class Rings(Case):
    def test_rings(self):
        for name, turns, told in groups():
            found = self.call(rings, turns, counts=True)
            self.assertEqual(found, plain_rings(turns))
            # each lot by how many turns its rings have
            self.assertEqual(sorted([len(ring) for ring in lot] for lot in found), told)
            self.assertEqual({type(place) for lot in found for ring in lot for place in ring}, {int})
            self.assertEqual(len(blocks(group_table(turns))), len(found))

    def test_sorted(self):
        for name, turns, _ in groups():
            found = rings(turns)
            self.assertEqual(found, sorted(found))
            for lot in found:
                self.assertEqual(lot, sorted(lot))
                for ring in lot:
                    self.assertEqual(ring, sorted(ring))

    def test_told(self):
        for turns, wanted in [
                ([[0, 1, 2], [1, 2, 0], [2, 0, 1]], [[[0]], [[0, 1, 2]]]),
                ([[1, 2, 0], [0, 1, 2], [2, 0, 1]], [[[0, 1, 2]], [[1]]]),
                ([[0]], [[[0]]]),
                ([[0, 1, 2], [1, 2, 0], [2, 0, 1], [1, 0, 2], [0, 2, 1], [2, 1, 0]],
                 [[[0]], [[0, 1, 2]], [[0, 3], [0, 4], [0, 5]]])]:
            self.assertEqual(rings(turns), wanted)


ROUND_OF_SIX = own(SAMPLES["turns"])


class Beside(Case):
    def check(self, room, grid, call=False):
        """Kept, none of its rows made of the others; together all rows, in common nothing but noughts."""
        told = self.call(beside_room, room, grid) if call else beside_room(room, grid)
        self.assertEqual({type(number) for row in told for number in row} - {Ratio}, set())
        self.assertEqual({len(row) for row in told} - {room.size}, set())
        self.assertEqual(rank(told), len(told))
        self.assertIs(is_kept(room, told), True)
        self.assertEqual(joined(grid, told), ratios(unit(room.size)))
        self.assertEqual(shared(grid, told), [])
        self.assertEqual(rank(grid) + len(told), room.size)
        if len(told) == 0:
            self.assertEqual(told, [])

    def rooms(self):
        for seed, (name, turns, _) in enumerate(groups()):
            moved = places_moved(turns)
            found = [moved] + ([own(moved.table)] if len(turns) <= 6 else [])
            found.append(in_places(moved, seed))
            # not full: places of which all things make nought
            if moved.size < 6:
                found.append(in_places(beside(moved, nought_room(moved.table, 6 - moved.size)), seed))
            found.append(nought_room(moved.table, 2))
            yield from found[seed % 2:]

    def test_kept_grids(self):
        seen = 0
        for seed, room in enumerate(self.rooms()):
            for at, told in enumerate(kept_grids(room, seed)):
                grid = ratios(told)
                self.check(room, grid, seed % 9 == 0 and at < 4)
                if at % 3 == 0:
                    self.check(room, other_grid(told, seed))
                seen += 0 < len(told) < room.size
        self.assertGreater(seen, 100)

    def test_all_and_nothing(self):
        for room in (ROUND_OF_SIX, ROOMS["moved"], ROOMS["moved and nought"]):
            whole = ratios(unit(room.size))
            self.assertEqual(beside_room(room, whole), [])
            self.assertEqual(beside_room(room, whole + whole), [])
            for empty in ([], (), [[0] * room.size]):
                self.assertEqual(rank(beside_room(room, empty)), room.size)
                self.assertIs(is_kept(room, beside_room(room, empty)), True)

    def test_not_full_rooms(self):
        # sums of places of which things make something, and such of which they make nought
        turns = [[0, 1], [1, 0]]
        room = in_places(beside(places_moved(turns), nought_room(group_table(turns), 2)), 31)
        for told in kept_grids(room, 3):
            self.check(room, ratios(told))
        for seed in range(12):
            # rows that are no sums of such of both kinds that are kept by themselves
            rows = [numbers_of(100 * seed + at, room.size, 2, 1) for at in range(1 + seed % 2)]
            self.check(room, ratios(kept_of(room, rows)))

    def test_things_of_a_group(self):
        # the one need not be thing 0
        for name, seed in (("six", 1), ("of a square", 2), ("four", 3), ("three", 4)):
            turns = turned_places([list(turn) for turn in closed(GROUPS[name][0])], seed)
            room = places_moved(turns)
            for told in kept_grids(room, seed):
                self.check(room, ratios(told))
        table = SAMPLES["turns"]
        self.assertEqual(len(beside_room(own(table), [[1] * 6])), 5)

    def test_told(self):
        room = own_room(group_table([[0, 1], [1, 0]]))
        for grid, wanted in [([[1, 1]], [[1, -1]]), ([[2, -2]], [[1, 1]])]:
            self.assertEqual(plain_steps(support.plain(beside_room(room, grid))), support.plain(wanted))


class Wrong(Case):
    def test_not_a_group(self):
        half = Table([[[Ratio(1, 2)]]])
        twice = by_places(2, {(0, 0): (0, 1), (0, 1): (1, 1), (1, 0): (1, 1), (1, 1): (0, 2)})
        monoid = by_places(2, {(0, 0): (0, 1), (0, 1): (1, 1), (1, 0): (1, 1), (1, 1): (1, 1)})
        for table in (half, twice, monoid, noughts(1), noughts(2), upper_table(2), numbers_table(2), SAMPLES["left three"],
                      SAMPLES["right things"], SAMPLES["root"], SAMPLES["powers"], SAMPLES["corner"],
                      Table([[[-1]]])):
            room = own(table)
            for grid in ([], [[0] * room.size], ratios(unit(room.size))):
                self.fails(NotGroup, beside_room, room, grid)
        in_other = table_in_letters(own(SAMPLES["round three"]), 4)
        self.fails(NotGroup, beside_room, in_other, [])
        signs = own(in_letters(SAMPLES["round two"], [[1, 0], [0, -1]]))
        self.assertEqual(rank(beside_room(signs, [])), 2)
        other = own(in_letters(SAMPLES["round three"], [[1, 0, 0], [0, -1, 0], [0, 0, 1]]))
        self.fails(NotGroup, beside_room, other, [])
        # all things make the one with themselves, but u v is -1 + u + v
        signs = Table([[[1, 0, 0], [0, 1, 0], [0, 0, 1]], [[0, 1, 0], [1, 0, 0], [-1, 1, 1]],
                       [[0, 0, 1], [-1, 1, 1], [1, 0, 0]]])
        self.fails(NotGroup, beside_room, own(signs), [])
        # some product is not a thing, or the one is none
        mixed = own(in_letters(SAMPLES["round two"], [[Ratio(1, 2), Ratio(1, 2)], [Ratio(1, 2), Ratio(-1, 2)]]))
        self.fails(NotGroup, beside_room, mixed, [])

    def test_not_kept(self):
        for room, grid in [(ROOMS["moved"], [[1, 0, 0]]), (ROOMS["moved"], [[1, 1, 1], [1, 2, 3]]),
                           (own_room(group_table([[0, 1], [1, 0]])), [[1, 2]])]:
            self.fails(NotKept, beside_room, room, grid)
        # that there is no group is told ahead of that
        self.fails(NotGroup, beside_room, ROOMS["upper"], [[0, 1]])

    def test_values(self):
        room = own_room(group_table([[0, 1], [1, 0]]))
        for value in KINDS:
            self.fails(InvalidRoom, beside_room, value, None, value=value)
            if not support.is_grid(value) or (len(value) and len(value[0]) != 2):
                self.fails(InvalidGrid, beside_room, room, value, value=value)
                self.fails(InvalidGrid, beside_room, ROOMS["upper"], value, value=value)
        for value in ([[1, 1, 1]], [[1]], [[1, True]], [[1, 1]] * 65, [[]]):
            self.fails(InvalidGrid, beside_room, room, value, value=value)
        self.assertEqual(len(beside_room(room, [[1, 1]] * 64)), 1)

    def test_great_room(self):
        table = group_table(ROUNDS)
        room = room_beside(Room(table, ROOMS["moved"].squares()), Room(table, ROOMS["moved"].squares()))
        for told in kept_grids(room, 6):
            grid = ratios(told)
            self.assertEqual(shared(grid, beside_room(room, grid)), [])


if __name__ == "__main__":
    unittest.main()
