"""Tables that the tests go through, told by rows alone (not by the makers)."""

from producttables.ratios import Ratio
from producttables.tables import Table
from support import letters_of, numbers_of, plain, plain_steps, plain_times, ratios


def by_places(size, told):
    """The table in which things (i, j) make what is told: place and amount; else nought."""
    rows = [[[0] * size for _ in range(size)] for _ in range(size)]
    for (i, j), (place, amount) in told.items():
        rows[i][j][place] = amount
    return Table(rows)


def units(told):
    """The table of units (i, j)."""
    return by_places(len(told), {(told.index((i, j)), told.index((k, m))): (told.index((i, m)), 1)
                                 for i, j in told for k, m in told if j == k})


def left_things(size):
    """Thing i times thing j is thing j."""
    return by_places(size, {(i, j): (j, 1) for i in range(size) for j in range(size)})


def right_things(size):
    """Thing i times thing j is thing i."""
    return by_places(size, {(i, j): (i, 1) for i in range(size) for j in range(size)})


def letter_powers(size, first):
    """The powers of a letter from the first on, below first + size; further ones are nought."""
    return by_places(size, {(i, j): (i + j + first, 1) for i in range(size) for j in range(size)
                            if i + j + first < size})


def turns():
    """The orders of three things: 0, 1, 2 turn round, 3, 4, 5 change two of them."""
    told = [(0, 1, 2), (1, 2, 0), (2, 0, 1), (1, 0, 2), (0, 2, 1), (2, 1, 0)]
    return by_places(6, {(i, j): (told.index(tuple(first[place] for place in second)), 1)
                         for i, first in enumerate(told) for j, second in enumerate(told)})


def in_other_letters(table, letters):
    """The table told by other letters, reckoned the plain way."""
    size = table.size
    square = plain(letters)
    turned = plain_steps([[square[j][i] for j in range(size)] + [1 if k == i else 0 for k in range(size)]
                          for i in range(size)])
    undo = [row[size:] for row in turned]
    rows = []
    for first in square:
        rows.append([])
        for second in square:
            made = plain_times(table, first, second)
            rows[-1].append([sum(undo[i][k] * made[k] for k in range(size)) for i in range(size)])
    return Table(ratios(rows))


def round_of(size):
    """The turns of a round of so many things."""
    return by_places(size, {(i, j): ((i + j) % size, 1) for i in range(size) for j in range(size)})


SAMPLES = {
    "single": by_places(1, {(0, 0): (0, 1)}),
    "half": by_places(1, {(0, 0): (0, Ratio(1, 2))}),
    "empty": by_places(1, {}),
    "empty three": by_places(3, {}),
    "root": Table([[[1, 0], [0, 1]], [[0, 1], [2, 0]]]),
    "round two": round_of(2),
    "round three": round_of(3),
    "round eight": round_of(8),
    "powers": letter_powers(3, 0),
    "powers eight": letter_powers(8, 0),
    "powers from one": letter_powers(3, 1),
    "powers from one, eight": letter_powers(8, 1),
    "upper two": units([(0, 0), (0, 1), (1, 1)]),
    "upper three": units([(0, 0), (0, 1), (0, 2), (1, 1), (1, 2), (2, 2)]),
    "corner": units([(0, 0), (0, 1)]),
    "squares": units([(0, 0), (0, 1), (1, 0), (1, 1)]),
    "turns": turns(),
    "left things": left_things(2),
    "left three": left_things(3),
    "right things": right_things(2),
    "upper in letters": in_other_letters(units([(0, 0), (0, 1), (1, 1)]), letters_of(3, 3)),
    "squares in letters": in_other_letters(units([(0, 0), (0, 1), (1, 0), (1, 1)]), letters_of(4, 4)),
    "left in letters": in_other_letters(left_things(3), letters_of(5, 3)),
    "powers in letters": in_other_letters(letter_powers(3, 1), letters_of(6, 3)),
}

ONES = {
    "single": [1], "half": [2], "root": [1, 0], "round two": [1, 0], "round three": [1, 0, 0],
    "round eight": [1, 0, 0, 0, 0, 0, 0, 0], "powers": [1, 0, 0], "powers eight": [1, 0, 0, 0, 0, 0, 0, 0],
    "upper two": [1, 0, 1], "upper three": [1, 0, 0, 1, 0, 1], "squares": [1, 0, 0, 1],
    "turns": [1, 0, 0, 0, 0, 0],
}


def one_in_letters(one, letters):
    """A mixture told by other letters."""
    size = len(one)
    square, told = plain(letters), plain(one)
    rows = plain_steps([[square[j][i] for j in range(size)] + [told[i]] for i in range(size)])
    return ratios([row[size] for row in rows])


ONES["upper in letters"] = one_in_letters([1, 0, 1], letters_of(3, 3))
ONES["squares in letters"] = one_in_letters([1, 0, 0, 1], letters_of(4, 4))
COMMUTING = ["single", "half", "empty", "empty three", "root", "round two", "round three", "round eight", "powers",
             "powers eight", "powers from one", "powers from one, eight", "powers in letters"]


def mixtures_of(table, seed, many=3):
    """Nought, all things, and some other mixtures."""
    size = table.size
    found = [[0] * size] + [[1 if i == j else 0 for j in range(size)] for i in range(size)]
    return found + [numbers_of(100 * seed + place, size) for place in range(many)]


def things_at(size, places):
    """The things at these places, as a part."""
    return [[1 if at == place else 0 for at in range(size)] for place in places]


# the dying part of each sample table, and its power that is the first one to be nothing
DYING = {
    "single": ([], 1), "half": ([], 1), "empty": ([[1]], 2), "empty three": (things_at(3, [0, 1, 2]), 2),
    "root": ([], 1), "round two": ([], 1), "round three": ([], 1), "round eight": ([], 1),
    "powers": (things_at(3, [1, 2]), 3), "powers eight": (things_at(8, range(1, 8)), 8),
    "powers from one": (things_at(3, range(3)), 4), "powers from one, eight": (things_at(8, range(8)), 9),
    "upper two": ([[0, 1, 0]], 2), "upper three": (things_at(6, [1, 2, 4]), 3), "corner": ([[0, 1]], 2),
    "squares": ([], 1), "turns": ([], 1), "left things": ([[1, -1]], 2),
    "left three": ([[1, 0, -1], [0, 1, -1]], 2), "right things": ([[1, -1]], 2),
    "upper in letters": ([one_in_letters([0, 1, 0], letters_of(3, 3))], 2), "squares in letters": ([], 1),
    "left in letters": ([one_in_letters(row, letters_of(5, 3)) for row in ([1, 0, -1], [0, 1, -1])], 2),
    "powers in letters": (things_at(3, range(3)), 4),
}
