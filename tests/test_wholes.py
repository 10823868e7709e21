"""[34] to [37]: parting pairs, and papers of whole lines."""

import itertools
import math
import unittest

from producttables.errors import InvalidLine, TooMany
from producttables.factors import factors, is_whole
from producttables.ratios import Ratio
from producttables.wholes import is_parting_pair, is_whole_paper, parting_pair, whole_paper
from producttables.wholework import integer_line
from support import KINDS, Case, is_numbers, plain, plain_line, plain_line_times, ratios, tuples
from test_factors import NO_PRIMES, WHOLE, lots_of_lines, product_of

PRIMES = [number for number in range(2, 60) if all(number % low for low in range(2, number))]


def plain_integer_line(line):
    """The INTEGER line of a line, the plain way."""
    told = plain_line(plain(line))
    bottom = math.lcm(*[number.denominator for number in told])
    whole = [int(number * bottom) for number in told]
    shared = math.gcd(*whole) * (1 if whole[-1] > 0 else -1)
    return [number // shared for number in whole]


def rest_modulo(line, other, prime):
    """The rest modulo a prime, the plain way; None divides nothing."""
    rest = [number % prime for number in line]
    undo = pow(other[-1], -1, prime)
    while len(rest) >= len(other):
        amount = rest[-1] * undo % prime
        for place, number in enumerate(other):
            at = len(rest) - len(other) + place
            rest[at] = (rest[at] - amount * number) % prime
        rest.pop()
    while rest and rest[-1] == 0:
        rest.pop()
    return rest


def common_modulo(first, second, prime):
    first, second = rest_modulo(first, [0] * 40 + [1], prime), rest_modulo(second, [0] * 40 + [1], prime)
    while second:
        first, second = second, rest_modulo(first, second, prime)
    return first


def plain_times(first, second):
    made = [0] * (len(first) + len(second) - 1)
    for i, left in enumerate(first):
        for j, right in enumerate(second):
            made[i + j] += left * right
    return made


def is_bare_modulo(line, prime):
    derived = [place * number for place, number in enumerate(line)][1:]
    return len(common_modulo(line, derived, prime)) == 1


def is_one_piece(line, prime):
    """Whether no line of half the degree or less goes into the line: by lines that all such go into."""
    power = [0, 1]
    for _ in range((len(line) - 1) // 2):
        made = [1]
        for _ in range(prime):
            made = rest_modulo(plain_times(made, power), line, prime) or [0]
        power = made
        differ = power + [0] * (2 - len(power))
        differ = [differ[0], differ[1] - 1] + differ[2:]
        if len(common_modulo(line, differ, prime)) != 1:
            return False
    return True


def goes_into(part, line):
    """Whether the line of INTEGERS goes into another one, by Fractions."""
    rest = plain(line)
    part = plain(part)
    while len(rest) >= len(part):
        amount = rest[-1] / part[-1]
        for place, number in enumerate(part):
            rest[len(rest) - len(part) + place] -= amount * number
        rest.pop()
    return not any(rest)


def is_paper(line, value):
    """The words of [36], one behind another."""
    whole = plain_integer_line(line)
    prime, power, parts = value
    degree, head = len(whole) - 1, whole[-1]
    bound = 2 ** degree * sum(map(abs, whole))
    modulus = prime ** power
    if prime not in PRIMES or head % prime == 0 or not is_bare_modulo(whole, prime):
        return False
    if not 1 <= power <= 1000 or modulus <= 2 * head * bound:
        return False
    for part in parts:
        if len(part) < 2 or part[-1] != 1 or not all(0 <= number < modulus for number in part):
            return False
        if not is_one_piece([number % prime for number in part], prime):
            return False
    made = [head]
    for part in parts:
        made = plain_times(made, part)
    if len(made) != len(whole) or any((left - right) % modulus for left, right in zip(made, whole)):
        return False
    for many in range(1, len(parts)):
        for lot in itertools.combinations(parts, many):
            made = [head]
            for part in lot:
                made = plain_times(made, part)
            made = [number % modulus for number in made]
            made = [number - modulus if 2 * number > modulus else number for number in made]
            shared = math.gcd(*made)
            if goes_into([number // shared for number in made], whole):
                return False
    return True


class Pairs(Case):
    def test_pairs(self):
        for lines, head in lots_of_lines():
            line = product_of(lines, head)
            told = self.call(parting_pair, line)
            if len(lines) == 1:
                self.assertIsNone(told)
                continue
            self.assertIs(type(told), tuple)
            self.assertEqual([type(one) for one in told], [list, list])
            for one in told:
                self.assertGreater(len(one), 1)
                self.assertNotEqual(one[-1], Ratio(0))
                self.assertEqual({type(number) for number in one}, {Ratio})
            self.assertEqual(product_of(told), line)
            self.assertIs(is_parting_pair(line, told), True)

    def test_whole_ones_have_none(self):
        for line in WHOLE + NO_PRIMES:
            self.assertIsNone(self.call(parting_pair, line))
        for line in ([], [0], [0] * 17, [5], [Ratio(1, 2), 0]):
            self.assertIsNone(self.call(parting_pair, line))

    def test_told_pairs(self):
        line, first, second = [-2, 0, Ratio(1, 2)], [2, 1], [-1, Ratio(1, 2)]
        for pair in ((first, second), (second, first), (tuple(first), second), (first + [0], second + [0] * 15),
                     ([4, 2], [Ratio(-1, 2), Ratio(1, 4)]), ([-2, -1], [1, Ratio(-1, 2)])):
            self.assertIs(self.call(is_parting_pair, line, pair), True)
            self.assertIs(is_parting_pair(line + [0, 0], pair), True)
        for pair in ([first, second], (first, first), (first,), (first, second, [1]), (line, [1]), ([1], line),
                     (first, None), (None, second), ([2, True], second), (first, [-1, Ratio(1, 2), "0"]),
                     (first + [0] * 16, second), ([4, 2], second), ([2, 1, 1], second), ([], []), ([2], second),
                     ([3, 1], second), (first, [-1, Ratio(1, 3)]), ((first, second),), {0: first, 1: second}):
            self.assertIs(is_parting_pair(line, pair), False, pair)

    def test_numbers_and_nought_have_none(self):
        for line in ([], [0], [3], [0, 1]):
            for pair in (([0, 1], [1]), ([0], [0, 1]), ([3], [1]), ([], [1, 1]), ([0, 1], [0, 1])):
                self.assertIs(is_parting_pair(line, pair), False)

    def test_moved_numbers(self):
        for lines, head in lots_of_lines():
            line = product_of(lines, head)
            told = parting_pair(line)
            if told is None:
                continue
            first, second = told
            stretched = [number * Ratio(-3, 7) for number in first], [number * Ratio(-7, 3) for number in second]
            self.assertIs(is_parting_pair(line, stretched), True)
            self.assertIs(is_parting_pair(line, stretched[::-1]), True)
            for place in range(len(first)):
                changed = first[:place] + [first[place] + 1] + first[place + 1:]
                self.assertIs(is_parting_pair(line, (changed, second)), False)
            self.assertIs(is_parting_pair(line, (stretched[0], second)), False)

    def test_long_lines(self):
        # no bound but that of lines
        for degree in range(2, 17):
            line = [0] * degree + [6]
            for low in range(1, degree):
                self.assertIs(is_parting_pair(line, ([0] * low + [2], [0] * (degree - low) + [3])), True)
            if degree > 8:
                self.fails(TooMany, parting_pair, line, what="degree", limit=8)

    def test_any_value(self):
        for line in ([1, 2, 1], [0, 0, 1], [1, 3], [], [0] * 9 + [1]):
            self.tells(lambda value, line=line: is_parting_pair(line, value), lambda value: False)


class IntegerLines(Case):
    def test_integer_line(self):
        for line, wanted in [([Ratio(1, 2), Ratio(-1, 3)], [-3, 2]), ([4, -6, 2], [2, -3, 1]), ([-4, 0, -6], [2, 0, 3]),
                             ([Ratio(2, 3)], [1]), ([0, Ratio(-5, 7)], [0, 1])]:
            self.assertEqual(integer_line(ratios(line)), wanted)
        for line in WHOLE:
            self.assertEqual(integer_line(ratios(line)), plain_integer_line(line))
            self.assertEqual(integer_line([number * Ratio(-9, 14) for number in ratios(line)]),
                             plain_integer_line(line))


class Papers(Case):
    def test_whole_lines_have_papers(self):
        for line in WHOLE:
            told = self.call(whole_paper, line)
            self.assertIs(type(told), tuple)
            prime, power, parts = told
            self.assertEqual([type(one) for one in told], [int, int, list])
            self.assertEqual({type(part) for part in parts}, {list})
            self.assertEqual({type(number) for part in parts for number in part}, {int})
            self.assertTrue(is_paper(line, told))
            self.assertIs(self.call_paper(line, told), True)

    def call_paper(self, line, value):
        """As call, but with INTEGERS left as they are in the paper."""
        told = is_whole_paper(line, value)
        for way in (is_whole_paper(line=line, value=value), is_whole_paper(tuple(line), tuples_inside(value)),
                    is_whole_paper(ratios(line), value), is_whole_paper(line + [0], value),
                    is_whole_paper([number * Ratio(-2, 3) for number in line], value)):
            self.assertIs(way, told)
        return told

    def test_others_have_none(self):
        for lines, head in lots_of_lines():
            line = product_of(lines, head)
            self.assertEqual(self.call(whole_paper, line) is None, len(lines) > 1)
        for line in ([], [0], [5], [Ratio(1, 2), 0], [0] * 17):
            self.assertIsNone(self.call(whole_paper, line))
            self.assertIs(is_whole_paper(line, (2, 5, [[1, 1]])), False)
            self.assertIs(is_whole_paper(line, (2, 5, [])), False)

    def test_no_prime_serves(self):
        for line in NO_PRIMES:
            self.assertIs(is_whole(line), True)
            self.assertIsNone(whole_paper(line))

    def test_powers_that_are_too_great(self):
        # by 2 alone the line falls into the fewest parts, but no power to 1,000 is great enough
        line = [Ratio(10 ** 400 + 1), 1, 1]
        prime, power, parts = told = whole_paper(line)
        self.assertLessEqual(power, 1000)
        self.assertNotEqual(prime, 2)
        self.assertIs(is_whole_paper(line, told), True)
        self.assertIsNone(whole_paper([Ratio(10 ** 1800 + 1), 1, 1]))

    def test_squares_modulo_the_prime(self):
        # 23 times 23 is alike to 17 modulo 256, but modulo 2 the line is a square
        self.assertIs(is_whole([-17, 0, 1]), True)
        self.assertIs(is_whole_paper([-17, 0, 1], (2, 8, [[23, 1], [233, 1]])), False)
        self.assertFalse(is_paper([-17, 0, 1], (2, 8, [[23, 1], [233, 1]])))

    def test_heads_of_parts(self):
        # 2 times 13 is alike to 1 modulo 25
        self.assertIs(is_whole_paper([1, 0, 1], (5, 2, [[7, 1], [18, 1]])), True)
        self.assertIs(is_whole_paper([1, 0, 1], (5, 2, [[14, 2], [9, 13]])), False)
        self.assertIs(is_whole_paper([1, 0, 1], (5, 2, [[7, 1], [18, 1, 0]])), False)
        self.assertIs(is_whole_paper([1, 0, 1], (5, 2, [[7, 1], [18, 1], [1]])), False)

    def test_all_primes(self):
        # with each prime that serves, a whole line has a paper
        for line in ([1, 0, 1], [-2, 0, 1], [3, 0, 4], [1, 1, 1]):
            whole = plain_integer_line(line)
            for prime in PRIMES:
                serves = whole[-1] % prime != 0 and is_bare_modulo(whole, prime)
                power = 1
                while prime ** power <= 2 * whole[-1] * 4 * sum(map(abs, whole)):
                    power += 1
                for more in (-1, 0, 1):
                    papers = roots_papers(whole, prime, power + more)
                    for paper in papers:
                        self.assertEqual(is_whole_paper(line, paper), serves and more >= 0 and paper[1] > 0, paper)
                        self.assertEqual(is_paper(line, paper), is_whole_paper(line, paper))

    def test_lines_that_are_not_whole(self):
        for line in ([-1, 0, 1], [-1, 0, 4], [6, 5, 1], [1, 2, 1], [0, 0, 1]):
            whole = plain_integer_line(line)
            for prime in PRIMES[:8]:
                for paper in roots_papers(whole, prime, 9):
                    self.assertIs(is_whole_paper(line, paper), False)
                    self.assertFalse(is_paper(line, paper))

    def test_changed_papers(self):
        for line in WHOLE[6:]:
            prime, power, parts = told = whole_paper(line)
            modulus = prime ** power
            self.assertIs(is_whole_paper(line, (prime, power, parts[::-1])), True)
            self.assertIs(is_whole_paper(line, (prime, power, [tuple(part) for part in parts])), True)
            changed = [
                list(told), (prime, power), (prime, power, parts, []), (prime, power - 1, parts),
                (prime, power, parts[1:]), (prime, power, parts + parts[:1]), (prime, power, parts + [[1]]),
                (prime, power, parts[:-1] + [parts[-1] + [0]]), (prime, power, parts[:-1] + [[0] + parts[-1]]),
                (Ratio(prime), power, parts), (prime, Ratio(power), parts), (prime, power, ratios(parts)),
                (prime, power, parts[0]), (prime, power, {0: parts[0]}), (prime, power, None), (-prime, power, parts),
                (prime, -power, parts), (prime, 10 ** 29, parts), (prime, 0, parts), (prime * prime, power, parts),
                (prime, str(power), parts), (True, power, parts), (prime, True, parts), (prime, power, [None]),
                (prime, power, parts[:-1] + [parts[-1][:-1] + [True]]), (prime, power, [[]]), (prime, power, []),
                (prime, power, parts[:-1] + [parts[-1][:-1]]),
            ]
            for other in PRIMES:
                # where one part stands with small numbers, it may be one by another prime, too
                value = (other, power, parts)
                self.assertIs(is_whole_paper(line, value), is_paper(line, value), value)
            changed.extend((other, power, parts) for other in (1, 0, 4, 61, 9, 59 * 59, -2, 10 ** 29))
            for at, part in enumerate(parts):
                for place in range(len(part)):
                    for number in (part[place] + modulus, part[place] - modulus, part[place] + 1):
                        made = part[:place] + [number] + part[place + 1:]
                        changed.append((prime, power, parts[:at] + [made] + parts[at + 1:]))
            for at in range(1, len(parts)):
                put = [number % modulus for number in plain_times(parts[0], parts[at])]
                changed.append((prime, power, parts[1:at] + parts[at + 1:] + [put]))
            for value in changed:
                if value != told:
                    self.assertIs(is_whole_paper(line, value), False, value)

    def test_greater_powers(self):
        # parts as they stand are seldom parts modulo a greater power, but there are such
        self.assertIs(is_whole_paper([1, 0, 1], (3, 3, [[1, 0, 1]])), True)
        self.assertIs(is_whole_paper([1, 0, 1], (3, 1000, [[1, 0, 1]])), True)
        self.assertIs(is_whole_paper([1, 0, 1], (3, 1001, [[1, 0, 1]])), False)
        self.assertIs(is_whole_paper([1, 0, 1], (3, 2, [[1, 0, 1]])), False)
        self.assertIs(is_whole_paper([1, 1, 1], (2, 5, [[1, 1, 1]])), True)
        self.assertIs(is_whole_paper([1, 1, 1], (2, 4, [[1, 1, 1]])), False)
        self.assertIs(is_whole_paper([1, 0, 1], (5, 3, [[7, 1], [18, 1]])), False)
        self.assertIs(is_whole_paper([1, 0, 1], (5, 3, [[57, 1], [68, 1]])), True)

    def test_lines_with_more_parts_everywhere(self):
        for line in ([1, 0, 0, 0, 1], [1, 0, -10, 0, 1], [576, 0, -960, 0, 352, 0, -40, 0, 1]):
            prime, power, parts = whole_paper(line)
            self.assertGreater(len(parts), 1)
            # put together to one, the part is not of one piece
            self.assertIs(is_whole_paper(line, (prime, power, [[n % prime ** power for n in line]])), False)

    def test_degree_one(self):
        for line in ([0, 1], [-1, 2], [Ratio(2, 3), Ratio(5, 7)], [-999999, 999983]):
            prime, power, parts = told = whole_paper(line)
            self.assertEqual(len(parts), 1)
            self.assertTrue(is_paper(line, told))
            self.assertIs(is_whole_paper(line, told), True)
            self.assertIs(is_whole_paper(line, (prime, power, [[(parts[0][0] + 1) % prime ** power, 1]])), False)

    def test_great_numbers(self):
        line = [Ratio(999983 - place, 999979 - 3 * place) for place in range(9)]
        told = whole_paper(line)
        self.assertIs(is_whole_paper(line, told), True)
        self.assertTrue(is_paper(line, told))

    def test_any_value(self):
        for line in ([1, 0, 1], [1, 3], [], [1]):
            self.tells(lambda value, line=line: is_whole_paper(line, value), lambda value: False)
            self.tells(lambda value, line=line: is_whole_paper(line, (5, value, [[7, 1], [18, 1]])),
                       lambda value, line=line: line == [1, 0, 1] and type(value) is int and value == 2)
            self.tells(lambda value, line=line: is_whole_paper(line, (5, 2, value)), lambda value: False)
            self.tells(lambda value, line=line: is_whole_paper(line, (5, 2, [value, [18, 1]])), lambda value: False)
            self.tells(lambda value, line=line: is_whole_paper(line, (5, 2, [[7, value], [18, 1]])),
                       lambda value, line=line: line == [1, 0, 1] and type(value) is int and value == 1)


def tuples_inside(value):
    return value[:2] + (tuples(value[2]),)


def roots_papers(whole, prime, power):
    """What may be papers of a line of degree 2 modulo a prime: by two roots, or by none."""
    if power < 1:
        return []
    modulus = prime ** power
    roots = [0] if power == 0 else [root for root in range(prime) if worth(whole, root) % prime == 0]
    for step in range(2, power + 1):
        roots = [root + more * prime ** (step - 1) for root in roots for more in range(prime)
                 if worth(whole, root + more * prime ** (step - 1)) % prime ** step == 0][:6]
    found = [(prime, power, [[-first % modulus, 1], [-second % modulus, 1]])
             for first, second in itertools.product(roots, repeat=2) if first != second][:4]
    found.extend((prime, power, [[-root % modulus, 1]]) for root in roots[:1])
    if whole[-1] % prime:
        undo = pow(whole[-1], -1, modulus)
        monic = [number * undo % modulus for number in whole]
        if not roots:
            found.append((prime, power, [monic]))
    kept = []
    for paper in found:
        made = [whole[-1]]
        for part in paper[2]:
            made = plain_times(made, part)
        if len(made) == len(whole) and not any((a - b) % modulus for a, b in zip(made, whole)):
            kept.append(paper)
    return kept


def worth(line, number):
    return sum(amount * number ** place for place, amount in enumerate(line))


class Wrong(Case):
    def test_degrees(self):
        for degree in range(9, 17):
            line = [0] * degree + [1]
            for function, more in ((parting_pair, []), (whole_paper, []), (is_whole_paper, [None]),
                                   (is_whole_paper, [(3, 3, [[1, 0, 1]])])):
                self.fails(TooMany, function, line, *more, what="degree", limit=8)
            self.assertIs(is_parting_pair(line, None), False)

    def test_lines(self):
        for value in KINDS:
            if not is_numbers(value, 0, 17):
                for function, more in ((parting_pair, []), (whole_paper, []), (is_whole_paper, [None]),
                                       (is_parting_pair, [None])):
                    self.fails(InvalidLine, function, value, *more, value=value)

    def test_factors_are_shown_whole(self):
        for lines, head in lots_of_lines():
            for factor, _ in factors(product_of(lines, head)):
                self.assertIs(is_whole_paper(factor, whole_paper(factor)), True)


if __name__ == "__main__":
    unittest.main()
