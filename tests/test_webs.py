"""[84], [85]: webs, their paths and tables."""

import itertools
import random
import unittest

from producttables.dying import dying, dying_power
from producttables.errors import InvalidMany, InvalidWeb, TooMany
from producttables.living import is_living
from producttables.makers import behind
from producttables.parting import block_sizes
from producttables.ratios import Ratio
from producttables.tables import Table, one
from producttables.webs import paths, web_table
from samples import things_at
from support import KINDS, Case, is_integer, ratios

# arrows of webs, in any sequence, alike ones among them
WEBS = [
    (1, []), (2, []), (3, []), (4, []), (2, [(0, 1)]), (2, [(1, 0)]), (2, [(0, 1), (0, 1)]), (2, [(1, 0)] * 3),
    (2, [(0, 1)] * 6), (2, [(0, 1)] * 7), (3, [(0, 1), (1, 2)]), (3, [(1, 2), (0, 1)]), (3, [(2, 1), (1, 0)]),
    (3, [(0, 1), (0, 2), (1, 2)]), (3, [(0, 2), (1, 2)]), (3, [(2, 0), (2, 1)]), (3, [(0, 1), (0, 1), (1, 2)]),
    (3, [(0, 1), (1, 2), (1, 2)]), (4, [(0, 1), (1, 2), (2, 3)]), (4, [(3, 1), (1, 2), (2, 0)]), (4, [(0, 1), (2, 3)]),
    (4, [(0, 1), (0, 2), (1, 3), (2, 3)]), (4, [(3, 2), (3, 1), (3, 0)]), (4, [(0, 3), (1, 3), (2, 3), (0, 3)]),
    (4, [(0, 1), (0, 1), (1, 2), (1, 2), (2, 3), (2, 3), (0, 3)]), (4, [(2, 3), (1, 2), (0, 1), (1, 2), (0, 3), (0, 2)]),
]
ROUND = [
    (1, [(0, 0)]), (2, [(0, 1), (1, 0)]), (2, [(1, 1)]), (3, [(0, 1), (1, 2), (2, 0)]), (3, [(2, 2), (0, 1)]),
    (4, [(0, 1), (1, 2), (2, 3), (3, 0)]), (4, [(3, 2), (0, 1), (2, 3)]), (4, [(0, 1), (1, 2), (2, 1)]),
    (4, [(0, 3), (3, 1), (1, 2), (2, 3), (0, 1), (0, 1), (0, 1)]), (2, [(0, 1)] * 6 + [(1, 0)]),
]


def plain_paths(places, arrows):
    """All paths: all sequences of arrows that join, each by itself."""
    found = [(place, ()) for place in range(places)]
    for many in range(1, places):
        for along in itertools.product(range(len(arrows)), repeat=many):
            if all(arrows[a][1] == arrows[b][0] for a, b in zip(along, along[1:])):
                found.append((arrows[along[0]][0], along))
    return sorted(found, key=lambda path: (len(path[1]), path))


def leads_round(places, arrows):
    reach = set(arrows)
    for _ in range(places):
        reach |= {(a, d) for a, b in reach for c, d in reach if b == c}
    return any(a == b for a, b in reach)


class Paths(Case):
    def test_paths(self):
        for places, arrows in WEBS:
            told = paths(places, arrows)
            self.assertEqual(told, plain_paths(places, arrows))
            self.assertIs(type(told), list)
            for path in told:
                self.assertIs(type(path), tuple)
                self.assertEqual([type(one) for one in path], [int, tuple])
                self.assertEqual({type(position) for position in path[1]} - {int}, set())
            self.assertEqual(paths(places=places, arrows=tuple(arrows)), told)
            told.append(None)
            self.assertEqual(paths(places, arrows), plain_paths(places, arrows))
            before = list(arrows)
            paths(places, arrows)
            self.assertEqual(arrows, before)

    def test_any_arrows(self):
        seen = set()
        seeded = random.Random(3)
        for _ in range(300):
            places = seeded.randint(1, 4)
            arrows = [(seeded.randrange(places), seeded.randrange(places)) for _ in range(seeded.randint(0, 7))]
            round_one = leads_round(places, arrows)
            seen.add(round_one)
            if round_one:
                self.fails(InvalidWeb, paths, places, arrows, value=arrows)
                self.fails(InvalidWeb, web_table, places, arrows, value=arrows)
            else:
                self.assertEqual(paths(places, arrows), plain_paths(places, arrows))
        self.assertEqual(seen, {True, False})

    def test_told(self):
        self.assertEqual(paths(3, [(2, 1), (1, 0), (2, 1)]), [
            (0, ()), (1, ()), (2, ()), (1, (1,)), (2, (0,)), (2, (2,)), (2, (0, 1)), (2, (2, 1))])


class Tables(Case):
    def test_web_tables(self):
        for places, arrows in WEBS:
            told = plain_paths(places, arrows)
            if len(told) > 8:
                self.fails(TooMany, web_table, places, arrows, what="things", limit=8)
                continue
            table = web_table(places, arrows)
            self.assertIs(type(table), Table)
            self.assertEqual(table.size, len(told))
            for i, (start, along) in enumerate(told):
                for j, (other, further) in enumerate(told):
                    end = arrows[along[-1]][1] if along else start
                    wanted = [0] * len(told)
                    if end == other:
                        wanted[told.index((start, along + further))] = 1
                    self.assertEqual(table.rows()[i][j], ratios(wanted))
            self.assertEqual(web_table(places=places, arrows=tuple(arrows)), table)

    def test_what_lives(self):
        for places, arrows in WEBS:
            told = plain_paths(places, arrows)
            if len(told) > 8:
                continue
            table = web_table(places, arrows)
            part = things_at(len(told), range(places, len(told)))
            self.assertEqual(dying(table), ratios(part))
            self.assertEqual(dying_power(table), max(len(path[1]) for path in told) + 1)
            self.assertEqual(block_sizes(behind(table, part)), [(1, 1)] * places)
            self.assertIs(is_living(table, things_at(len(told), range(places))), True)
            self.assertEqual(one(table), [Ratio(1) if place < places else Ratio(0) for place in range(len(told))])

    def test_more_than_eight_paths(self):
        self.assertEqual(web_table(2, [(0, 1)] * 6).size, 8)
        for places, arrows in [(2, [(0, 1)] * 7), (4, [(0, 1), (1, 2), (2, 3)]), (3, [(0, 1), (0, 1), (1, 2), (1, 2)])]:
            self.fails(TooMany, web_table, places, arrows, what="things", limit=8)


class Wrong(Case):
    def test_places(self):
        for function in (paths, web_table):
            for value in KINDS:
                if not is_integer(value) or not 1 <= value <= 4:
                    self.fails(InvalidMany, function, value, None, value=value)
            for value in (0, 5, True, Ratio(2)):
                self.fails(InvalidMany, function, value, [], value=value)

    def test_arrows(self):
        for function in (paths, web_table):
            for value in KINDS:
                if value not in ([], ()) or isinstance(value, dict):
                    # no list of tuples of two places is among them, but (0, 0) would lead round
                    self.fails(InvalidWeb, function, 2, value, value=value)
            for value in ([[0, 1]], [(0, 1), [0, 1]], [(0, 2)], [(0, -1)], [(0,)], [(0, 1, 1)], [()], [(0, True)],
                          [(False, 1)], [(0, Ratio(1))], [("0", 1)], [(0, 1)] * 8, [(0, 1), None], [0, 1], (0, 1),
                          {(0, 1): 1}, [(0, None)], [((0, 1),)]):
                self.fails(InvalidWeb, function, 2, value, value=value)
            for places, arrows in ROUND:
                self.fails(InvalidWeb, function, places, arrows, value=arrows)
        self.assertEqual(len(paths(2, ((0, 1),))), 3)


if __name__ == "__main__":
    unittest.main()
