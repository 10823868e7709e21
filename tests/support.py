"""What the tests share: sample values, sample tables, plain reckoning with Fractions."""

import copy
import inspect
import random
import unittest
from fractions import Fraction

from producttables import errors
from producttables.ratios import Ratio
from producttables.tables import Table


class Strange:
    """An object of a kind that nothing here wants."""


TABLE = Table([[[1, 0], [0, 1]], [[0, 1], [2, 0]]])

# values of every kind; each test takes out those that its parameter wants
KINDS = [
    None, True, False, 0, 1, 2, 3, 5, 8, 9, 16, 17, 30, 31, 64, 65, -1, -2, 10 ** 29, -10 ** 29,
    "", "0", "1", "a", "[]", b"", b"0", Ratio(0), Ratio(1), Ratio(2), Ratio(1, 2), Ratio(-3, 4), Ratio(8),
    [], (), {}, {0: 1}, {0: [1]}, {"a": None}, Strange(), Strange, len, TABLE, errors.NoOne(),
    errors.InvalidNumber(3), errors.TooMany("things", 8), ValueError("a"), [None], [True], [False], (True,),
    ["1"], [b"1"], [[]], ((),), [{}], [0], (0,), [1], [[1]], [[True]], [["1"]], [[None]], [[[1]]], [[[True]]],
    [[[None]]], [[["1"]]], [1, True], [True, 1], [1, 2], (1, 2), [0, None], [1, 2, 3], [1, 0, False], ["a", "b"],
    [[1, 2], [3]], [[1, 2], [2, 4]], [[1, 2], [3, True]], [[1, 0], 5], [[1, 0], None], [[1, 0], "ab"],
    [(1, 0), (0, 1)], ([1, 0], [0, 1]), [[1, 0, 0], [0, 1, 0]], [[1, 0], [0, 1], [1, 1]], {1, 2}, range(3),
    [[[1, 0], [0, 1]], [[0, 1], [2, 0]]], [[[1, 0], [0, 1]], [[0, 1], [2, True]]], [[[1, 0], [0, 1]], [[0, 1]]],
    [Ratio(1), Ratio(2)], [Ratio(1), TABLE], [TABLE, TABLE], [[Ratio(1, 3), 0], [1, 1]], [0] * 17, [0] * 18,
    [[0]] * 64, [[0]] * 65, [[0] * 64], [[0] * 65], [[1, 0]] * 9,
]


def is_integer(value):
    return isinstance(value, int) and value is not True and value is not False


def is_number(value):
    return is_integer(value) or isinstance(value, Ratio)


def is_numbers(value, least, most):
    return type(value) in (list, tuple) and least <= len(value) <= most and all(map(is_number, value))


def is_grid(value):
    return (type(value) in (list, tuple) and len(value) <= 64
            and all(is_numbers(row, 1, 64) for row in value) and len({len(row) for row in value}) <= 1)


def is_part(value, size):
    return (is_grid(value) and all(len(row) == size for row in value)
            and len(plain_steps(plain(value))) == len(value))


def plain(value):
    """Numbers as Fractions, tuples and lists as lists, all the way down."""
    if isinstance(value, Ratio):
        return Fraction(value.top, value.bottom)
    if is_integer(value):
        return Fraction(value)
    if isinstance(value, (list, tuple)):
        return [plain(one) for one in value]
    return value


def ratios(value):
    """INTEGERS and Fractions as Ratios, tuples and lists as lists, all the way down."""
    if isinstance(value, (list, tuple)):
        return [ratios(one) for one in value]
    if isinstance(value, Ratio):
        return value
    value = Fraction(value)
    return Ratio(value.numerator, value.denominator)


def worths(value):
    """INTEGERS as Ratios, tuples and lists as they are, all the way down."""
    if isinstance(value, (list, tuple)):
        return type(value)(worths(one) for one in value)
    return Ratio(value) if is_integer(value) else value


def tuples(value):
    """Lists as tuples, all the way down."""
    if isinstance(value, list):
        return tuple(tuples(one) for one in value)
    return value


def plain_steps(rows):
    """The steps of rows of Fractions, the plain way."""
    rows, done = [list(row) for row in rows], 0
    for place in range(len(rows[0]) if rows else 0):
        at = next((at for at in range(done, len(rows)) if rows[at][place]), None)
        if at is None:
            continue
        rows[done], rows[at] = rows[at], rows[done]
        rows[done] = [number / rows[done][place] for number in rows[done]]
        for other in range(len(rows)):
            if other != done and rows[other][place]:
                amount = rows[other][place]
                rows[other] = [a - amount * b for a, b in zip(rows[other], rows[done])]
        done += 1
    return rows[:done]


def plain_sum(amounts, rows, wide):
    return [sum((a * row[place] for a, row in zip(amounts, rows)), Fraction(0)) for place in range(wide)]


PLAIN_ROWS = {}


def plain_rows(table):
    """The rows of a table as Fractions, kept, as a table never changes."""
    if id(table) not in PLAIN_ROWS:
        # the table is kept, too: so no other one gets its id
        PLAIN_ROWS[id(table)] = table, plain(table.rows())
    return PLAIN_ROWS[id(table)][1]


def plain_times(table, first, second):
    """A product of mixtures by the words of [13]."""
    rows, size = plain_rows(table), table.size
    made = [Fraction(0)] * size
    for i in range(size):
        for j in range(size):
            amount = first[i] * second[j]
            for k in range(size):
                if amount and rows[i][j][k]:
                    made[k] += amount * rows[i][j][k]
    return made


def plain_line(line):
    """A line of Fractions without noughts at its end."""
    line = list(line)
    while line and not line[-1]:
        line.pop()
    return line


def plain_line_times(first, second):
    """A product of lines of Fractions."""
    made = [Fraction(0)] * (len(first) + len(second))
    for i, left in enumerate(first):
        for j, right in enumerate(second):
            made[i + j] += left * right
    return plain_line(made)


def plain_determinant(square):
    """By the first row, the plain way."""
    if not square:
        return Fraction(1)
    total = Fraction(0)
    for place, number in enumerate(square[0]):
        if number:
            rest = [row[:place] + row[place + 1:] for row in square[1:]]
            total += (-1) ** place * number * plain_determinant(rest)
    return total


def fresh(value):
    """A list, tuple or value in which whatever can be changed is changed."""
    if isinstance(value, list):
        for one in value:
            fresh(one)
        value.append("changed")
    elif isinstance(value, tuple):
        for one in value:
            fresh(one)


def shape(value):
    """Which lists, tuples and kinds of numbers a value is made of."""
    if isinstance(value, (list, tuple)):
        return type(value), [shape(one) for one in value]
    return type(value)


class Case(unittest.TestCase):
    """Calls in all the ways that [2] lets, and errors as [2] tells them."""

    def call(self, function, *args, counts=False):
        """What the function returns, told the same in each way of calling it; of COUNTS a Ratio is none."""
        before = copy.deepcopy(args)
        shapes = shape(args)
        told = function(*args)
        kept = copy.deepcopy(told)
        names = list(inspect.signature(function).parameters)
        named = dict(zip(names, args))
        ways = [
            function(**named), function(*args[:1], **{name: named[name] for name in names[1:len(args)]}),
            function(*[tuples(one) for one in args]),
        ]
        if not counts:
            ways.append(function(*[worths(one) if isinstance(one, (list, tuple)) else one for one in args]))
        for way in ways:
            self.assertEqual(way, kept)
            self.assertEqual(shape(way), shape(kept))
        self.assertEqual(args, before)
        self.assertEqual(shape(args), shapes)
        fresh(told)
        self.assertEqual(args, before)
        self.assertEqual(function(*args), kept)
        return kept

    def fails(self, error, function, *args, **attributes):
        """The call raises just this error, with these attributes, and changes nothing."""
        shapes = shape(args)
        with self.assertRaises(error) as caught:
            function(*args)
        self.assertIs(type(caught.exception), error)
        for name, value in attributes.items():
            told = getattr(caught.exception, name)
            self.assertIs(type(told), type(value))
            self.assertEqual(told, value)
        self.assertEqual(shape(args), shapes)

    def tells(self, function, wanted, *ahead, behind=()):
        """The function tells by a bool, for a value of any kind, whether it is wanted."""
        for value in KINDS:
            told = function(*ahead, value, *behind)
            self.assertIs(told, bool(wanted(value)), value)


def numbers_of(seed, many, most=4, bottom=3):
    """Some NUMBERS, INTEGERS and Ratios among them, the same ones each time."""
    told = random.Random(seed)
    found = []
    for _ in range(many):
        top, low = told.randint(-most, most), told.randint(1, bottom)
        found.append(top if low == 1 else Ratio(top, low))
    return found


def letters_of(seed, size):
    """A part of as many mixtures as the size, with fractions, the same one each time."""
    while True:
        rows = [numbers_of(1000 * seed + place, size) for place in range(size)]
        if len(plain_steps(plain(rows))) == size:
            return rows
        seed += 77
