"""[86], [87]: lots under meeting, their table, and its parting."""

import itertools
import random
import unittest

from producttables.dying import dying
from producttables.errors import InvalidLots
from producttables.meets import meet_squares, meet_table
from producttables.parting import block_sizes, is_parting, parting
from producttables.ratios import Ratio
from producttables.tables import Table, is_commuting, one
from support import KINDS, Case, ratios


def meeting(lots):
    """These lots and all that they have in common, in the sequence in which they come."""
    found = list(lots)
    while True:
        more = [tuple(sorted(set(a) & set(b))) for a in found for b in found]
        more = [lot for at, lot in enumerate(more) if lot not in found and lot not in more[:at]]
        if not more:
            return found
        found.extend(more)


TOLD = [
    [()], [(0,)], [(5,)], [(0, 1, 2, 3, 4, 5)], [(), (0,)], [(0,), ()], [(0, 1), (0,)], [(), (0,), (1,)],
    [(0, 1), (0, 2), (0,)], [(), (0,), (1,), (0, 1)], [(0, 1), (1,), (), (0,)], [(0, 1, 2), (3, 4, 5), ()],
    [(), (0,), (0, 1), (0, 1, 2), (0, 1, 2, 3), (0, 1, 2, 3, 4), (0, 1, 2, 3, 4, 5)],
    [lot for many in range(4) for lot in itertools.combinations(range(3), many)],
    [(0, 1, 2), (0, 1), (2,), (1, 2), (), (0,), (0, 2), (1,)],
    [(), (0,), (1,), (2,), (3,), (4,), (5,), (0, 5)], meeting([(0, 1, 2), (1, 2, 3), (2, 3, 4)]),
    meeting([(0, 2, 4), (0, 1), (4, 5)]),
]


def more_lots():
    seeded = random.Random(2)
    found = list(TOLD)
    while len(found) < 60:
        lots = [tuple(sorted(seeded.sample(range(6), seeded.randint(0, 5)))) for _ in range(seeded.randint(1, 4))]
        lots = meeting(list(dict.fromkeys(lots)))
        if len(lots) <= 8:
            seeded.shuffle(lots)
            found.append(lots)
    return found


def plain_is_lots(value):
    """The words of [86]."""
    if type(value) not in (list, tuple) or not 1 <= len(value) <= 8:
        return False
    for lot in value:
        if type(lot) is not tuple or not all(type(n) is int and 0 <= n < 6 for n in lot):
            return False
        if list(lot) != sorted(set(lot)):
            return False
    return len(set(value)) == len(value) and all(
        tuple(sorted(set(a) & set(b))) in value for a in value for b in value)


def plain_squares(lots):
    """[87]: each lot less the own squares of the lots within it."""
    found = {}
    for lot in sorted(lots, key=len):
        square = [1 if other == lot else 0 for other in lots]
        for other in found:
            if set(other) < set(lot):
                square = [a - b for a, b in zip(square, found[other])]
        found[lot] = square
    return sorted(found.values())


class Tables(Case):
    def test_meet_tables(self):
        for lots in more_lots():
            table = self.call(meet_table, lots, counts=True)
            self.assertIs(type(table), Table)
            self.assertEqual(table.size, len(lots))
            for i, first in enumerate(lots):
                for j, second in enumerate(lots):
                    common = tuple(sorted(set(first) & set(second)))
                    self.assertEqual(table.rows()[i][j], ratios([1 if lot == common else 0 for lot in lots]))

    def test_what_lives(self):
        for lots in more_lots():
            table = meet_table(lots)
            self.assertEqual(dying(table), [])
            self.assertIs(is_commuting(table), True)
            self.assertEqual(block_sizes(table), [(1, 1)] * len(lots))

    def test_squares(self):
        for lots in more_lots():
            told, table = self.call(meet_squares, lots, counts=True), meet_table(lots)
            self.assertEqual(told, ratios(plain_squares(lots)))
            self.assertEqual({type(number) for row in told for number in row}, {Ratio})
            self.assertEqual(told, parting(table))
            self.assertIs(is_parting(table, told), True)
            # the one: a sum of lots with whole amounts
            whole = [Ratio.total(list(column)) for column in zip(*told)]
            self.assertEqual(whole, one(table))
            self.assertTrue(all(number.is_whole for number in whole))
            for place, lot in enumerate(lots):
                if all(set(other) <= set(lot) for other in lots):
                    self.assertEqual(whole, table.thing(place))

    def test_told(self):
        self.assertEqual(meet_squares([(), (0,), (1,)]), ratios([[-1, 0, 1], [-1, 1, 0], [1, 0, 0]]))
        self.assertEqual(one(meet_table([(), (0,), (1,)])), ratios([-1, 1, 1]))
        self.assertEqual(meet_squares([(2,)]), ratios([[1]]))
        self.assertEqual(meet_squares([(0, 1), (1,), (), (0,)]),
                         ratios([[0, 0, -1, 1], [0, 0, 1, 0], [0, 1, -1, 0], [1, -1, 1, -1]]))


class Wrong(Case):
    def test_any_value(self):
        more = [
            [[0]], [(0,), [0, 1]], [(0,), (0,)], [(0,), (1,)], [(0, 0)], [(1, 0)], [(6,)], [(-1,)], [(True,)], [(False,)],
            [(0, True)], [(Ratio(1),)], [(None,)], [None], [("0",)], [(0,), None], (0,), (), ((0,), (0, 1)), {(): 1},
            [((),)], [(0, 1), (1, 2)], [(), (0,), (1,), (2,), (3,), (4,), (5,), (0, 1), (0, 2)], "01", [(), ()],
            [(0, 1), (0, 2), (1, 2), (0,), (1,), (2,)], [tuple(range(7))], [(0, 1, 2, 3, 4, 5)],
        ]
        seen = set()
        for value in KINDS + more:
            told = plain_is_lots(value)
            seen.add(told)
            for function in (meet_table, meet_squares):
                if told:
                    function(value)
                else:
                    self.fails(InvalidLots, function, value, value=value)
        self.assertEqual(seen, {True, False})

    def test_one_left_out(self):
        for lots in TOLD:
            for at in range(len(lots)):
                left = lots[:at] + lots[at + 1:]
                if plain_is_lots(left):
                    self.assertEqual(meet_table(left).size, len(left))
                else:
                    self.fails(InvalidLots, meet_table, left, value=left)
                self.fails(InvalidLots, meet_squares, lots + [lots[at]], value=lots + [lots[at]])


if __name__ == "__main__":
    unittest.main()
