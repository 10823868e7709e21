"""[4]: what holds over the whole program, for tables put together of known ones, in other letters."""

import itertools
import unittest

from producttables.claims import contrary, is_paper_of, is_true, paper_of
from producttables.dying import dies, dying, dying_paper, dying_power, is_dying_paper, is_partner, partner
from producttables.forms import read
from producttables.living import halves, is_living, lift, living
from producttables.lots import layer_lots, lots, nought_lot, same_lots
from producttables.lowest import nothing_power
from producttables.makers import (
    behind, beside, crossed, four_table, in_letters, led_behind, line_table, noughts, numbers_table, turned,
    upper_table, with_one, within,
)
from producttables.meets import meet_table
from producttables.parting import block_sizes, blocks, is_parting, parting
from producttables.parts import is_made, is_side, part_power, part_times
from producttables.ratios import Ratio
from producttables.rooms import Room, own_room, room_behind, room_beside, room_within, traces_of
from producttables.steps import joined, shared, steps
from producttables.tables import Table, is_commuting, one, power, times
from producttables.texts import written
from producttables.turnings import is_turning, turned_part, turning
from producttables.turns import group_table
from producttables.undoing import is_killer, killer, undone
from producttables.webs import web_table
from roomsamples import ROOMS, in_places, kept_grids, nought_room, own, same_table, squares_of, table_in_letters
from samples import SAMPLES, mixtures_of
from support import Case, letters_of, numbers_of, plain, ratios

# the table, the size of its dying part, its dying power, and the blocks behind it, by their sizes
KNOWN = [
    (numbers_table(2), 0, 1, [(4, 1)]),
    (upper_table(2), 1, 2, [(1, 1), (1, 1)]),
    (upper_table(3), 3, 3, [(1, 1), (1, 1), (1, 1)]),
    (noughts(2), 2, 2, []),
    (line_table([0, 0, 0, 1]), 2, 3, [(1, 1)]),
    (line_table([-2, 0, 1]), 0, 1, [(2, 2)]),
    (line_table([4, 0, -4, 0, 1]), 2, 2, [(2, 2)]),
    (four_table(-1, -1), 0, 1, [(4, 1)]),
    (four_table(1, 1), 0, 1, [(4, 1)]),
    (group_table([[0, 1, 2], [1, 2, 0], [2, 0, 1]]), 0, 1, [(1, 1), (2, 2)]),
    (group_table([[0, 1, 2], [1, 2, 0], [2, 0, 1], [1, 0, 2], [0, 2, 1], [2, 1, 0]]), 0, 1, [(1, 1), (1, 1), (4, 1)]),
    (web_table(3, [(0, 1), (1, 2)]), 3, 3, [(1, 1), (1, 1), (1, 1)]),
    (meet_table([(), (0,), (1,)]), 0, 1, [(1, 1), (1, 1), (1, 1)]),
    (SAMPLES["left things"], 1, 2, [(1, 1)]),
    (SAMPLES["corner"], 1, 2, [(1, 1)]),
    (SAMPLES["powers from one"], 3, 4, []),
]


def put_together():
    """Known tables, beside one another, crossed, turned and with a one put in, in other letters."""
    found = []
    for seed, (table, dead, many, told) in enumerate(KNOWN):
        found.append((in_letters(table, letters_of(200 + seed, table.size)), dead, many, told))
        found.append((turned(table), dead, many, told))
        if table.size < 8:
            found.append((with_one(table), dead, many, told + [(1, 1)]))
        other, further, more, blocks_there = KNOWN[(3 * seed + 1) % len(KNOWN)]
        if table.size + other.size <= 8:
            both = beside(table, other)
            found.append((in_letters(both, letters_of(300 + seed, both.size)), dead + further, max(many, more),
                          told + blocks_there))
        small = [(line_table([0, 0, 1]), 1, 2), (line_table([-3, 0, 1]), 0, 1)][seed % 2]
        if table.size <= 4:
            both = crossed(table, small[0])
            size = dead * 2 + (table.size - dead) * small[1]
            found.append((in_letters(both, letters_of(400 + seed, both.size)), size, None, None))
    return found


TABLES = put_together()


class DiesOrLives(Case):
    def test_each_mixture(self):
        for seed, (table, size, _, _) in enumerate(TABLES):
            part, seen = dying(table), 0
            self.assertEqual(len(part), size)
            for mixture in mixtures_of(table, seed, 2) + part[:2]:
                paper, other = dying_paper(table, mixture), partner(table, mixture)
                self.assertIs(dies(table, mixture), other is None)
                self.assertIs(paper is None, other is not None)
                self.assertIs(is_made(table, part, mixture), other is None)
                if other is None:
                    self.assertIs(is_dying_paper(table, mixture, paper), True)
                    self.assertIs(is_partner(table, mixture, [1] * table.size), False)
                else:
                    self.assertIs(is_partner(table, mixture, other), True)
                    # no power of what they make is nought
                    for made in (times(table, mixture, other), times(table, other, mixture)):
                        self.assertIsNone(nothing_power(table, made))
                    self.assertIs(is_dying_paper(table, mixture, (part, 9)), False)
                    seen += 1
            self.assertTrue(seen or size == table.size)

    def test_the_dying_part(self):
        for table, _, many, _ in TABLES:
            part, told = dying(table), dying_power(table)
            self.assertIs(is_side(table, part), True)
            self.assertEqual(part_power(table, part, told), [])
            if told > 1:
                self.assertNotEqual(part_power(table, part, told - 1), [])
            if many is not None:
                self.assertEqual(told, many)
            for row in part:
                self.assertEqual(power(table, row, told), ratios([0] * table.size))


class OneWay(Case):
    def test_blocks(self):
        for table, size, _, told in TABLES:
            if size == table.size:
                continue
            quotient = behind(table, dying(table))
            self.assertEqual(dying(quotient), [])
            squares, parts = parting(quotient), blocks(quotient)
            if told is not None:
                self.assertEqual(sorted(block_sizes(quotient)), sorted(told))
            self.assertIs(is_parting(quotient, squares), True)
            self.assertEqual(sum(len(part) for part in parts), quotient.size)
            for i, j in itertools.product(range(len(parts)), repeat=2):
                self.assertEqual(part_times(quotient, parts[i], parts[j]), parts[i] if i == j else [])
            for square, part in zip(squares, parts):
                self.assertIs(is_side(quotient, part), True)
                own_table = within(quotient, part)
                self.assertEqual(len(blocks(own_table)), 1)
                self.assertEqual([times(quotient, square, row) for row in part], part)

    def test_other_letters(self):
        for seed, (table, _, _, _) in enumerate(KNOWN):
            if dying(table):
                continue
            # the same blocks, told by other letters
            letters = letters_of(seed + 500, table.size)
            other = in_letters(table, letters)
            back = {tuple(map(str, row)) for square in parting(other)
                    for row in [[Ratio.total([a * letter[place] for a, letter in zip(square, ratios(letters))])
                                 for place in range(table.size)]]}
            self.assertEqual(back, {tuple(map(str, square)) for square in parting(table)})


class LivingPart(Case):
    def test_living_parts(self):
        for seed, (table, size, _, told) in enumerate(TABLES):
            part, dead = living(table), dying(table)
            self.assertIs(is_living(table, part), True)
            self.assertEqual((len(joined(part, dead)), shared(part, dead)), (table.size, []))
            if part and told is not None:
                self.assertEqual(sorted(block_sizes(within(table, part))), sorted(told))
            if dead:
                amounts = ratios(numbers_of(seed, size, 2, 2))
                row = [Ratio.total([a * one_row[place] for a, one_row in zip(amounts, dead)])
                       for place in range(table.size)]
                other = turned_part(table, part, row)
                self.assertIs(is_living(table, other), True)
                made = turning(table, part, other)
                self.assertIs(dies(table, made), True)
                self.assertIs(is_turning(table, part, other, made), True)

    def test_halves_and_lifts(self):
        for seed, (table, size, _, _) in enumerate(TABLES):
            part, dead = living(table), dying(table)
            mixture = numbers_of(seed, table.size)
            ahead, rest = halves(table, part, mixture)
            self.assertIs(is_made(table, part, ahead) and dies(table, rest), True)
            self.assertEqual([a + b for a, b in zip(ahead, rest)], ratios(mixture))
            self.assertEqual(lift(table, part, led_behind(table, dead, mixture)), ahead)


class UndoneOrKills(Case):
    def test_each_mixture(self):
        seen = {True: 0, False: 0}
        for seed, (table, _, _, _) in enumerate(TABLES):
            unchanging = one(table)
            if unchanging is None:
                continue
            for mixture in mixtures_of(table, seed, 2) + dying(table)[:1]:
                made, kill = undone(table, mixture), killer(table, mixture)
                self.assertIs(made is None, kill is not None)
                seen[made is None] += 1
                if made is not None:
                    self.assertEqual(times(table, made, mixture), unchanging)
                    self.assertEqual(times(table, mixture, made), unchanging)
                else:
                    self.assertIs(is_killer(table, mixture, kill), True)
        self.assertGreater(min(seen.values()), 30)


class Rooms(Case):
    def rooms(self):
        for seed, (table, _, _, _) in enumerate(TABLES):
            if table.size > 6 or seed % 3 == 1:
                continue
            room = own_room(table)
            found = [room, in_places(room, seed + 600), nought_room(table, table.size)]
            if table.size <= 3:
                found.append(room_beside(room, nought_room(table, 6 - table.size)))
                found.append(room_beside(nought_room(table, 6 - table.size), found[1]))
            for told in kept_grids(room, seed)[2:5]:
                if told and len(told) < room.size:
                    inside, outside = room_within(room, ratios(told)), room_behind(room, ratios(told))
                    found += [inside, outside, room_beside(outside, inside)]
            yield found

    def test_same_lots(self):
        alike, unlike = 0, 0
        for found in self.rooms():
            told = [(lots(room), nought_lot(room)) for room in found]
            for (first, one_told), (second, other_told) in itertools.combinations(zip(found, told), 2):
                wanted = one_told == other_told
                self.assertIs(first.size == second.size and traces_of(first) == traces_of(second), wanted)
                self.assertIs(same_lots(first, second), wanted)
                claim = ("alike", (first, second))
                self.assertIs(is_true(claim), wanted)
                self.assertIs(is_paper_of(claim if wanted else contrary(claim),
                                          paper_of(claim if wanted else contrary(claim))), True)
                alike, unlike = alike + wanted, unlike + (not wanted)
        self.assertGreater(min(alike, unlike), 30)

    def test_layers(self):
        for found in self.rooms():
            for room in found[:4]:
                added = [sum(column) for column in zip(*layer_lots(room))]
                self.assertEqual(added, lots(room) + [nought_lot(room)])

    def test_letters_and_rooms(self):
        # a room goes with the table into other letters
        for seed, name in enumerate(["upper", "moved", "powers", "corner", "upper and single", "root thrice"]):
            for first, second in itertools.combinations(same_table(name)[:4], 2):
                there = table_in_letters(first, seed + 700), table_in_letters(second, seed + 700)
                self.assertIs(same_lots(*there), same_lots(first, second))
                self.assertEqual(sorted(lots(there[0])), sorted(lots(first)))


class Papers(Case):
    def test_just_one_has_a_paper(self):
        for seed, (table, _, _, _) in enumerate(TABLES):
            things = [("dies", (table, mixture)) for mixture in mixtures_of(table, seed, 1)[1:4]]
            things += [("simple", table), ("closed", (table, living(table))), ("closed", (table, dying(table)))]
            if one(table) is not None:
                things.append(("undone", (table, numbers_of(seed, table.size))))
            if table.size <= 6:
                things.append(("split", own(table)))
            for claim in things:
                other = contrary(claim)
                self.assertIs(is_true(claim), not is_true(other))
                papers = paper_of(claim), paper_of(other)
                self.assertEqual([paper is not None for paper in papers], [is_true(claim), is_true(other)])
                for paper in papers:
                    self.assertIs(is_paper_of(claim, paper), paper is not None and is_true(claim))
                    self.assertIs(is_paper_of(other, paper), paper is not None and is_true(other))

    def test_written_and_read(self):
        for table, _, _, _ in TABLES:
            self.assertEqual(Table(read(written(table))), table)
            for part in (dying(table), living(table)):
                self.assertEqual(read(written(part)), part)
                self.assertEqual(steps(part), part)
        for room in ROOMS.values():
            for square in room.squares():
                self.assertEqual(read(written(square)), square)
            self.assertEqual(Room(Table(read(written(room.table))), room.squares()), room)
            self.assertEqual(plain(room.squares()), squares_of(room))

    def test_commuting_tables(self):
        # where mixtures commute just those die of which a power is nought
        seen = 0
        for seed, (table, _, _, _) in enumerate(TABLES):
            if is_commuting(table):
                for mixture in mixtures_of(table, seed) + dying(table)[:2]:
                    self.assertIs(nothing_power(table, mixture) is not None, dies(table, mixture))
                    seen += 1
        self.assertGreater(seen, 50)


if __name__ == "__main__":
    unittest.main()
