"""[14], [15], [16]: tables from two, other things, told tables."""

import itertools
import unittest

from producttables.errors import (
    InvalidLine, InvalidMany, InvalidMixture, InvalidNumber, InvalidPart, InvalidTable, NotClosed, NothingLeft, NotSide,
    NotWhole, TooMany,
)
from producttables.makers import (
    behind, beside, crossed, four_table, in_letters, led_behind, line_table, noughts, numbers_table, turned,
    upper_table, with_one, within,
)
from producttables.ratios import Ratio
from producttables.tables import one, times
from samples import SAMPLES, by_places, in_other_letters, letter_powers, round_of, units
from support import KINDS, Case, fresh, letters_of, numbers_of, plain, plain_steps, plain_sum, plain_times, ratios
import support

PAIRS = [(first, second) for first, second in itertools.product(SAMPLES, repeat=2)]


def pad(mixture, ahead, behind_it):
    return [0] * ahead + list(mixture) + [0] * behind_it


class FromTwo(Case):
    def test_beside(self):
        for name, other_name in PAIRS[::3]:
            first, second = SAMPLES[name], SAMPLES[other_name]
            size = first.size + second.size
            if size > 8:
                self.fails(TooMany, beside, first, second, what="things", limit=8)
                continue
            made = self.call(beside, first, second)
            self.assertEqual(made.size, size)
            for i, j in itertools.product(range(size), repeat=2):
                wanted = [0] * size
                if i < first.size and j < first.size:
                    wanted = pad(first.rows()[i][j], 0, second.size)
                elif i >= first.size and j >= first.size:
                    wanted = pad(second.rows()[i - first.size][j - first.size], first.size, 0)
                self.assertEqual(made.rows()[i][j], ratios(wanted))

    def test_crossed(self):
        for name, other_name in PAIRS[::2]:
            first, second = SAMPLES[name], SAMPLES[other_name]
            size = first.size * second.size
            if size > 8:
                self.fails(TooMany, crossed, first, second, what="things", limit=8)
                continue
            made = self.call(crossed, first, second)
            self.assertEqual(made.size, size)
            places = list(itertools.product(range(first.size), range(second.size)))
            for (i, j), (k, m) in itertools.product(places, repeat=2):
                wanted = [0] * size
                for p, q in places:
                    wanted[p * second.size + q] = first.rows()[i][k][p] * second.rows()[j][m][q]
                self.assertEqual(made.rows()[i * second.size + j][k * second.size + m], wanted)

    def test_bounds(self):
        empty = {size: noughts(size) for size in range(1, 9)}
        for first, second in itertools.product(range(1, 9), repeat=2):
            if first + second > 8:
                self.fails(TooMany, beside, empty[first], empty[second], what="things", limit=8)
            else:
                self.assertEqual(beside(empty[first], empty[second]).size, first + second)
            if first * second > 8:
                self.fails(TooMany, crossed, empty[first], empty[second], what="things", limit=8)
            else:
                self.assertEqual(crossed(empty[first], empty[second]).size, first * second)

    def test_turned(self):
        for table in SAMPLES.values():
            made = self.call(turned, table)
            for i, j in itertools.product(range(table.size), repeat=2):
                self.assertEqual(made.rows()[i][j], table.rows()[j][i])
            self.assertEqual(turned(made), table)
        self.assertEqual(turned(SAMPLES["left three"]).rows()[1][2], ratios([0, 1, 0]))

    def test_with_one(self):
        for table in SAMPLES.values():
            if table.size == 8:
                self.fails(TooMany, with_one, table, what="things", limit=8)
                continue
            made = self.call(with_one, table)
            self.assertEqual(made.size, table.size + 1)
            self.assertEqual(one(made), made.thing(0))
            for i, j in itertools.product(range(table.size), repeat=2):
                self.assertEqual(made.rows()[i + 1][j + 1], [Ratio(0)] + table.rows()[i][j])
            for place in range(made.size):
                self.assertEqual(made.rows()[0][place], made.thing(place))
                self.assertEqual(made.rows()[place][0], made.thing(place))
        self.assertEqual(with_one(noughts(7)).size, 8)

    def test_what_is_made_is_of_its_own(self):
        first, second = noughts(2), line_table([-2, 0, 1])
        made = beside(first, second)
        fresh(made.rows())
        self.assertEqual(first, noughts(2))
        self.assertEqual(second, SAMPLES["root"])
        self.assertEqual(made, beside(noughts(2), SAMPLES["root"]))

    def test_wrong_first(self):
        full = noughts(8)
        for function in (beside, crossed):
            self.fails(InvalidTable, function, None, None, value=None)
            self.fails(InvalidTable, function, full, full.rows(), value=full.rows())


# parts of the sample tables: closed ones, side parts, with their rows as steps
SIDES = {
    "powers": [[], [[0, 0, 1]], [[0, 1, 0], [0, 0, 1]], [[1, 0, 0], [0, 1, 0], [0, 0, 1]]],
    "upper two": [[], [[0, 1, 0]], [[1, 0, 0], [0, 1, 0]], [[0, 1, 0], [0, 0, 1]], [[1, 0, 0], [0, 1, 0], [0, 0, 1]]],
    "empty three": [[[1, 2, 3]], [[1, 0, Ratio(1, 2)], [0, 1, 5]]],
    "round two": [[[1, 1]], [[1, -1]]],
    "left things": [[[1, -1]]],
    "squares": [[], [[1, 0, 0, 0], [0, 1, 0, 0], [0, 0, 1, 0], [0, 0, 0, 1]]],
    "turns": [[[1] * 6], [[1, 1, 1, -1, -1, -1]]],
}
CLOSED = {
    "powers": [[[1, 0, 0]], [[1, 0, 0], [0, 0, 1]]],
    "upper two": [[[1, 0, 1]], [[1, 5, 0]], [[1, 0, 0], [0, 0, 1]], [[1, 0, 1], [0, 1, 0]]],
    "squares": [[[1, 0, 0, 0]], [[0, 1, 0, 0]], [[1, 0, 0, 0], [0, 1, 0, 0], [0, 0, 0, 1]], [[1, 0, 0, 1], [0, 1, -1, 0]]],
    "left three": [[[1, 0, 0], [0, 0, 1]], [[Ratio(1, 2), Ratio(1, 2), 0]], [[1, -1, 0]]],
    "turns": [[[1, 0, 0, 0, 0, 0], [0, 0, 0, 1, 0, 0]], [[1, 1, 1, 0, 0, 0]]],
}
OPEN = {
    "powers": [[[0, 1, 0]], [[1, 1, 0]]],
    "upper two": [[[1, 0, 0], [0, 1, 1]]],
    "squares": [[[0, 1, 0, 0], [0, 0, 1, 0]], [[1, 0, 0, 2]], [[1, 0, 0, 0], [0, 1, 0, 0], [0, 0, 1, 0]]],
    "root": [[[0, 1]], [[1, 1]]],
}


def other_rows(part, seed):
    """Other rows that make the same part."""
    letters = letters_of(seed, len(part)) if part else []
    return ratios([plain_sum(plain(row), plain(part), len(part[0])) for row in letters])


def all_parts(told):
    for name, parts in told.items():
        for seed, part in enumerate(parts):
            yield SAMPLES[name], part
            yield SAMPLES[name], other_rows(part, seed + 1)
            yield SAMPLES[name], part[::-1]


def amounts(part, mixture):
    """The amounts by which the mixture is made of the rows, reckoned the plain way."""
    rows, many = plain(part), len(part)
    told = plain_steps([[row[place] for row in rows] + [number] for place, number in enumerate(plain(mixture))])
    if len(told) > many:
        return None
    return [row[many] for row in told]


class Others(Case):
    def test_in_letters(self):
        for seed, table in enumerate(SAMPLES.values()):
            if table.size > 6:
                continue
            letters = letters_of(seed, table.size)
            made = self.call(in_letters, table, letters)
            self.assertEqual(made, in_other_letters(table, letters))
            for i, j in itertools.product(range(table.size), repeat=2):
                wanted = plain_times(table, plain(letters[i]), plain(letters[j]))
                self.assertEqual(plain_sum(plain(made.rows()[i][j]), plain(letters), table.size), wanted)

    def test_letters_in_another_sequence(self):
        for table in SAMPLES.values():
            letters = [table.thing(place) for place in range(table.size)]
            self.assertEqual(in_letters(table, letters), table)
            made, last = in_letters(table, letters[::-1]), table.size - 1
            for i, j in itertools.product(range(table.size), repeat=2):
                self.assertEqual(made.rows()[i][j], table.rows()[last - i][last - j][::-1])

    def test_in_letters_and_back(self):
        table, letters = SAMPLES["upper in letters"], letters_of(3, 3)
        self.assertEqual(in_letters(upper_table(2), letters), table)
        back = [amounts(letters, upper_table(2).thing(place)) for place in range(3)]
        self.assertEqual(in_letters(table, ratios(back)), upper_table(2))

    def test_not_whole(self):
        for part in ([], [[1, 0, 0]], [[1, 0, 0], [0, 1, 1]]):
            self.fails(NotWhole, in_letters, SAMPLES["powers"], part)

    def test_within(self):
        for table, part in list(all_parts(CLOSED)) + list(all_parts(SIDES)):
            if not part:
                self.fails(NothingLeft, within, table, part)
                continue
            made = self.call(within, table, part)
            self.assertEqual(made.size, len(part))
            for i, j in itertools.product(range(len(part)), repeat=2):
                wanted = amounts(part, plain_times(table, plain(part[i]), plain(part[j])))
                self.assertEqual(made.rows()[i][j], ratios(wanted))

    def test_not_closed(self):
        for table, part in all_parts(OPEN):
            self.fails(NotClosed, within, table, part)

    def test_within_goes_by_the_rows_as_they_stand(self):
        made = within(SAMPLES["upper two"], [[0, 0, 2], [1, 0, 0]])
        self.assertEqual(made.rows(), ratios([[[2, 0], [0, 0]], [[0, 0], [0, 1]]]))

    def test_behind(self):
        for table, part in all_parts(SIDES):
            if len(part) == table.size:
                self.fails(NothingLeft, behind, table, part)
                continue
            made = self.call(behind, table, part)
            steps = plain_steps(plain(part))
            heads = [next(place for place in range(table.size) if row[place]) for row in steps]
            left = [place for place in range(table.size) if place not in heads]
            self.assertEqual(made.size, len(left))
            for (i, p), (j, q) in itertools.product(enumerate(left), repeat=2):
                wanted = plain_led(steps, table.rows()[p][q])
                self.assertEqual(made.rows()[i][j], ratios(wanted))

    def test_led_behind(self):
        for seed, (table, part) in enumerate(all_parts(SIDES)):
            for mixture in [[0] * table.size, numbers_of(seed, table.size), numbers_of(seed + 500, table.size)]:
                told = self.call(led_behind, table, part, mixture)
                self.assertEqual(told, ratios(plain_led(plain_steps(plain(part)), mixture)))
                self.assertEqual(len(told), table.size - len(part))
            # products are led to products
            if len(part) < table.size:
                first, second = numbers_of(seed, table.size), numbers_of(seed + 500, table.size)
                made = times(behind(table, part), led_behind(table, part, first), led_behind(table, part, second))
                self.assertEqual(led_behind(table, part, times(table, first, second)), made)

    def test_of_all_and_of_nothing(self):
        table = SAMPLES["squares"]
        self.assertEqual(behind(table, []), table)
        self.assertEqual(led_behind(table, [], [1, 2, 3, 4]), ratios([1, 2, 3, 4]))
        things = [table.thing(place) for place in range(4)]
        self.assertEqual(led_behind(table, things, [1, 2, 3, 4]), [])
        self.assertEqual(within(table, things), table)

    def test_not_side(self):
        for name, part in [("squares", [[1, 0, 0, 0]]), ("upper two", [[1, 0, 0]]), ("upper two", [[0, 0, 1]]),
                           ("left things", [[1, 0]]), ("right things", [[1, 0]]), ("root", [[1, 0]]),
                           ("powers", [[1, 0, 0]]), ("upper two", [[1, 0, 0], [0, 0, 1]])]:
            self.fails(NotSide, behind, SAMPLES[name], part)
            self.fails(NotSide, led_behind, SAMPLES[name], part, [0] * SAMPLES[name].size)
            self.fails(InvalidMixture, led_behind, SAMPLES[name], part, [0] * 7, value=[0] * 7)

    def test_from_one_side_alone(self):
        # from the left (right) all is kept, from the other side it is not
        row, column = [[1, 0, 0, 0], [0, 1, 0, 0]], [[1, 0, 0, 0], [0, 0, 1, 0]]
        for part in (row, column):
            self.fails(NotSide, behind, SAMPLES["squares"], part)
            self.assertEqual(within(SAMPLES["squares"], part).size, 2)

    def test_no_parts(self):
        for function, more in ((in_letters, []), (within, []), (behind, []), (led_behind, [[0, 0, 0]])):
            for part in ([[0, 0, 0]], [[1, 2, 3], [2, 4, 6]], [[1, 0, 0], [0, 1, 0], [1, 1, 0]], [[1, 0]],
                         [[1, 0, 0], [0, 1, 0], [0, 0, 1], [1, 1, 1]], [[1, 0, 0, 0]], [[1, 0, True]], [[]]):
                self.fails(InvalidPart, function, SAMPLES["powers"], part, *more, value=part)


def plain_led(steps, mixture):
    left, heads = plain(mixture), []
    for row in steps:
        heads.append(next(place for place, number in enumerate(row) if number))
        amount = left[heads[-1]]
        left = [a - amount * b for a, b in zip(left, row)]
    return [number for place, number in enumerate(left) if place not in heads]


class Told(Case):
    def test_numbers_table(self):
        self.assertEqual(self.call(numbers_table, 1), SAMPLES["single"])
        self.assertEqual(self.call(numbers_table, 2), SAMPLES["squares"])

    def test_upper_table(self):
        self.assertEqual(self.call(upper_table, 1), SAMPLES["single"])
        self.assertEqual(self.call(upper_table, 2), SAMPLES["upper two"])
        self.assertEqual(self.call(upper_table, 3), SAMPLES["upper three"])
        self.assertEqual(upper_table(3), units([(0, 0), (0, 1), (0, 2), (1, 1), (1, 2), (2, 2)]))

    def test_noughts(self):
        for size in range(1, 9):
            self.assertEqual(self.call(noughts, size), by_places(size, {}))

    def test_counts(self):
        for function, most in ((numbers_table, 2), (upper_table, 3), (noughts, 8)):
            for value in KINDS + [most + 1]:
                if not (support.is_integer(value) and 1 <= value <= most):
                    self.fails(InvalidMany, function, value, value=value)

    def test_line_table(self):
        self.assertEqual(self.call(line_table, [-2, 0, 1]), SAMPLES["root"])
        self.assertEqual(self.call(line_table, [0, 0, 0, 1]), SAMPLES["powers"])
        self.assertEqual(self.call(line_table, [-1, 0, 1]), SAMPLES["round two"])
        self.assertEqual(line_table([-1] + [0] * 7 + [1]), round_of(8))
        self.assertEqual(line_table([0] * 8 + [5]), letter_powers(8, 0))
        self.assertEqual(line_table([3, 1]), SAMPLES["single"])

    def test_the_line_is_nought(self):
        for line in ([3, 1], [1, 1, 1], [1, 2, 3, 4], [-6, 5, 2], [1, 0, Ratio(1, 2), Ratio(-2, 3)],
                     [1, 2, 3, 4, 5, 6, 7, 8, 9], [0, 0, 3, -1, 0, Ratio(5, 7)]):
            table = self.call(line_table, line)
            size = len(line) - 1
            self.assertEqual(table.size, size)
            powers = [table.thing(0)]
            letter = table.thing(1) if size > 1 else [Ratio(-line[0], 1).over(line[1])]
            while len(powers) <= size:
                powers.append(times(table, powers[-1], letter))
            for place in range(size):
                self.assertEqual(powers[place], table.thing(place))
            self.assertEqual(plain_sum(plain(line), plain(powers), size), [0] * size)
            # noughts at the end, and a number to all of it, change nothing
            self.assertEqual(line_table(line + [0, Ratio(0)]), table)
            self.assertEqual(line_table([number * Ratio(-3, 2) for number in line]), table)

    def test_wrong_lines(self):
        for value in KINDS:
            if not (support.is_numbers(value, 0, 17) and 1 <= support_degree(value) <= 8):
                self.fails(InvalidLine, line_table, value, value=value)
        for value in ([], [0], [5], [5, 0, 0], [0] * 17, [0] * 9 + [1], [1] * 10, [0, 1] + [0] * 16,
                      [1, True], [True, 1], [1, "1"], [0, 1, None]):
            self.fails(InvalidLine, line_table, value, value=value)
        self.assertEqual(line_table([0] * 8 + [1] + [0] * 8).size, 8)

    def test_four_table(self):
        for first, second in [(-1, -1), (1, 1), (2, 3), (Ratio(1, 2), -5), (Ratio(-3, 4), Ratio(2, 7))]:
            table = self.call(four_table, first, second)
            things = [table.thing(place) for place in range(4)]
            unit, i, j, k = things
            self.assertEqual(one(table), unit)
            self.assertEqual(times(table, i, i), ratios([first, 0, 0, 0]))
            self.assertEqual(times(table, j, j), ratios([second, 0, 0, 0]))
            self.assertEqual(times(table, i, j), k)
            self.assertEqual(times(table, j, i), ratios([0, 0, 0, -1]))
            self.assertEqual(times(table, k, k), [-(Ratio(1) * first * second)] + ratios([0, 0, 0]))
        self.assertEqual(four_table(first=Ratio(2), second=Ratio(6, 2)), four_table(2, 3))

    def test_wrong_fours(self):
        for value in KINDS + [0, Ratio(0)]:
            if not support.is_number(value) or plain(value) == 0:
                self.fails(InvalidNumber, four_table, value, 1, value=value)
                self.fails(InvalidNumber, four_table, value, None, value=value)
                self.fails(InvalidNumber, four_table, 0, value, value=0)
                self.fails(InvalidNumber, four_table, 1, value, value=value)

    def test_all_have_ones(self):
        for table in (numbers_table(2), upper_table(3), line_table([1, 2, 3]), four_table(2, 5)):
            self.assertIsNotNone(one(table))
        self.assertIsNone(one(noughts(3)))


def support_degree(line):
    return max([place for place, number in enumerate(plain(line)) if number], default=-1)


if __name__ == "__main__":
    unittest.main()
