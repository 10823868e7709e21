"""[5], [13]: tables, their products, ones, what commutes."""

import itertools
import random
import unittest
from fractions import Fraction

from producttables.errors import InvalidPlace, InvalidRows, NotGood
from producttables.ratios import Ratio
from producttables.tables import Table, added, bad_places, is_commuting, one, power, scaled, times
from samples import COMMUTING, ONES, SAMPLES, mixtures_of
from support import KINDS, Case, fresh, is_number, plain, plain_times, ratios, tuples
import support

BENT = [[[0, 1], [1, 0]], [[0, 0], [0, 0]]]


def plain_bad(rows):
    """The first bad tuple, reckoned by the words of [5]."""
    rows, size = plain(rows), len(rows)

    def made(first, second):
        return [sum(first[i] * second[j] * rows[i][j][k] for i in range(size) for j in range(size))
                for k in range(size)]

    things = [[Fraction(i == j) for j in range(size)] for i in range(size)]
    for i, j, k in itertools.product(range(size), repeat=3):
        if made(rows[i][j], things[k]) != made(things[i], rows[j][k]):
            return i, j, k
    return None


def is_rows(value):
    lists = (list, tuple)
    return (type(value) in lists and 1 <= len(value) <= 8
            and all(type(row) in lists and len(row) == len(value) for row in value)
            and all(support.is_numbers(mixture, len(value), len(value)) for row in value for mixture in row))


def bent_rows():
    """Rows that are good but for one amount of one product, and rows of any amounts."""
    told = random.Random(3)
    for name, table in SAMPLES.items():
        if table.size > 6:
            continue
        for _ in range(4):
            rows = table.rows()
            i, j, k = [told.randrange(table.size) for _ in range(3)]
            rows[i][j][k] = rows[i][j][k] + told.choice([1, -2, Ratio(1, 3)])
            yield name, rows
    for size in (1, 2, 2, 3, 4):
        yield "any", [[[told.randint(-1, 1) for _ in range(size)] for _ in range(size)] for _ in range(size)]


class Rows(Case):
    def test_samples_are_good(self):
        for name, table in SAMPLES.items():
            self.assertIsNone(self.call(bad_places, table.rows()), name)
            if table.size < 7:
                self.assertIsNone(plain_bad(table.rows()))

    def test_bent_rows(self):
        seen = set()
        for name, rows in bent_rows():
            wanted = plain_bad(rows)
            seen.add(wanted is None)
            self.assertEqual(self.call(bad_places, rows), wanted, name)
            if wanted is None:
                self.assertEqual(Table(rows).rows(), ratios(rows))
            else:
                self.assertIs(type(bad_places(rows)), tuple)
                self.fails(NotGood, Table, rows, places=wanted)
                self.fails(NotGood, Table, tuples(rows), places=wanted)
        self.assertEqual(seen, {True, False})

    def test_first_bad(self):
        self.assertEqual(bad_places(BENT), (0, 0, 0))
        self.assertEqual([type(place) for place in bad_places(rows=BENT)], [int] * 3)
        # bad behind a good thing: at the last three things alone
        rows = SAMPLES["empty three"].rows()
        rows[2][2] = [0, 1, 0]
        rows[2][1] = [1, 0, 0]
        self.assertEqual(bad_places(rows), (2, 2, 2))
        rows[1][2] = [1, 0, 0]
        self.assertIsNone(bad_places(rows))
        rows[1][2] = [0, 0, 1]
        self.assertEqual(bad_places(rows), plain_bad(rows))

    def test_sizes(self):
        for size in range(1, 9):
            table = Table([[[0] * size] * size] * size)
            self.assertEqual(table.size, size)
            self.assertIs(type(table.size), int)
        for size in (0, 9):
            rows = [[[0] * size for _ in range(size)] for _ in range(size)]
            self.fails(InvalidRows, Table, rows, value=rows)
            self.fails(InvalidRows, bad_places, rows, value=rows)

    def test_wrong(self):
        for value in KINDS:
            if not is_rows(value):
                self.fails(InvalidRows, Table, value, value=value)
                self.fails(InvalidRows, bad_places, value, value=value)
        for place, row in itertools.product(range(2), range(2)):
            for value in KINDS:
                rows = [[[1, 0], [0, 1]], [[0, 1], [2, 0]]]
                if not is_number(value):
                    rows[row][place][1] = value
                    self.fails(InvalidRows, Table, rows, value=rows)
                if not support.is_numbers(value, 2, 2):
                    rows[row][place] = value
                    self.fails(InvalidRows, bad_places, rows, value=rows)
        for rows in ([[[1, 0], [0, 1]]], [[[1]], [[1]]], [[[1, 0], [0, 1]], [[0, 1]]], [[[1, 0]], [[0, 1]]],
                     [[[1, 0], [0, 1]], [[0, 1], [2, 0, 0]]], [[[1, 0, 0], [0, 1, 0]], [[0, 1, 0], [2, 0, 0]]]):
            self.fails(InvalidRows, Table, rows, value=rows)

    def test_wrong_form_is_told_ahead_of_bad_places(self):
        rows = [[[0, 1], [1, 0]], [[0, 0], [0, None]]]
        self.fails(InvalidRows, Table, rows, value=rows)
        self.fails(InvalidRows, bad_places, rows, value=rows)


class Objects(Case):
    def test_rows_are_copied(self):
        rows = [[[1, 0], [0, 1]], [[0, 1], [2, 0]]]
        table = Table(rows)
        fresh(rows)
        self.assertEqual(table.rows(), ratios([[[1, 0], [0, 1]], [[0, 1], [2, 0]]]))
        fresh(table.rows())
        fresh(table.thing(1))
        self.assertEqual(table, SAMPLES["root"])
        self.assertEqual(table.rows(), SAMPLES["root"].rows())
        self.assertEqual([type(number) for number in table.rows()[0][0]], [Ratio, Ratio])

    def test_names(self):
        table = Table(rows=SAMPLES["root"].rows())
        self.assertEqual(table.thing(place=1), table.thing(1))

    def test_things(self):
        for table in SAMPLES.values():
            for place in range(table.size):
                self.assertEqual(table.thing(place), ratios([1 if i == place else 0 for i in range(table.size)]))

    def test_wrong_things(self):
        for table in (SAMPLES["single"], SAMPLES["root"], SAMPLES["round eight"]):
            for value in KINDS:
                if not (support.is_integer(value) and 0 <= value < table.size):
                    self.fails(InvalidPlace, table.thing, value, value=value)

    def test_equal(self):
        for (name, table), (other_name, other) in itertools.product(SAMPLES.items(), repeat=2):
            self.assertIs(table == other, name == other_name)
            self.assertIs(table != other, name != other_name)
        self.assertIs(Table([[[2]]]) == Table([[[Ratio(4, 2)]]]), True)
        for value in KINDS + [SAMPLES["single"].rows()]:
            if not isinstance(value, Table):
                self.assertIs(SAMPLES["single"] == value, False)
                self.assertIs(value == SAMPLES["single"], False)
                self.assertIs(SAMPLES["single"] != value, True)

    def test_texts(self):
        self.assertEqual(repr(Table([[[1]]])), "Table([[[Ratio(1, 1)]]])")
        for table in SAMPLES.values():
            self.assertEqual(repr(table), f"Table({table.rows()!r})")

    def test_never_changes(self):
        with self.assertRaises(AttributeError):
            SAMPLES["root"].size = 3


class Products(Case):
    def test_times(self):
        for seed, table in enumerate(SAMPLES.values()):
            mixtures = mixtures_of(table, seed)
            for first, second in itertools.product(mixtures[::2], mixtures[-4:]):
                wanted = plain_times(table, plain(first), plain(second))
                self.assertEqual(self.call(times, table, first, second), ratios(wanted))
                self.assertEqual(times(table, second, first),
                                 ratios(plain_times(table, plain(second), plain(first))))

    def test_things_make_the_rows(self):
        for table in SAMPLES.values():
            for i, j in itertools.product(range(table.size), repeat=2):
                self.assertEqual(times(table, table.thing(i), table.thing(j)), table.rows()[i][j])

    def test_added_and_scaled(self):
        for seed, table in enumerate(SAMPLES.values()):
            mixtures = mixtures_of(table, seed)
            for first, second in zip(mixtures, mixtures[::-1]):
                wanted = [a + b for a, b in zip(plain(first), plain(second))]
                self.assertEqual(self.call(added, table, first, second), ratios(wanted))
                for number in (0, 1, -3, Ratio(2, 3), 10 ** 5):
                    wanted = [a * plain(number) for a in plain(first)]
                    self.assertEqual(self.call(scaled, table, first, number), ratios(wanted))

    def test_power(self):
        for seed, table in enumerate(SAMPLES.values()):
            for mixture in mixtures_of(table, seed)[-2:]:
                made = plain(mixture)
                for many in range(1, 6):
                    self.assertEqual(self.call(power, table, mixture, many), ratios(made))
                    made = plain_times(table, made, plain(mixture))

    def test_great_power(self):
        self.assertEqual(power(SAMPLES["root"], [0, 1], 30), [Ratio(2 ** 15), Ratio(0)])
        self.assertEqual(power(SAMPLES["root"], [0, 1], many=1), [Ratio(0), Ratio(1)])
        self.assertEqual(power(SAMPLES["half"], [3], 30), [Ratio(3 ** 30, 2 ** 29)])
        self.assertEqual(power(SAMPLES["powers eight"], [0, 1, 0, 0, 0, 0, 0, 0], 8), ratios([0] * 8))


class Ones(Case):
    def test_one(self):
        for name, table in SAMPLES.items():
            told = self.call(one, table)
            if name not in ONES:
                self.assertIsNone(told, name)
                continue
            self.assertEqual(told, ratios(ONES[name]), name)
            for mixture in mixtures_of(table, 5):
                self.assertEqual(times(table, told, mixture), ratios(mixture))
                self.assertEqual(times(table, mixture, told), ratios(mixture))

    def test_from_one_side_alone(self):
        # thing 0 changes nothing from the left, but not from the right; and turned about
        for name in ("left things", "right things"):
            self.assertIsNone(one(SAMPLES[name]))

    def test_commuting(self):
        for name, table in SAMPLES.items():
            self.assertIs(self.call(is_commuting, table), name in COMMUTING)
        # only the last two things do not commute
        rows = [[[0] * 4 for _ in range(4)] for _ in range(4)]
        rows[2][3] = [1, 0, 0, 0]
        self.assertIs(is_commuting(Table(rows)), False)
        rows[3][2] = [1, 0, 0, 0]
        self.assertIs(is_commuting(Table(rows)), True)
        rows[3][2] = [0, 1, 0, 0]
        self.assertIs(is_commuting(Table(rows)), False)


if __name__ == "__main__":
    unittest.main()
