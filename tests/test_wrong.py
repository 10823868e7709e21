"""Each parameter's error, with values of every kind, and the first one of several."""

import importlib
import unittest

from producttables import errors
from producttables.tables import Table
from support import KINDS, Case, is_integer, is_number, is_numbers, is_part

SIZE = 2
GOOD = {
    "table": Table([[[1, 0], [0, 1]], [[0, 1], [0, 0]]]), "mixture": [1, 2], "number": 3, "many": 2,
    "mixtures": [[1, 2], [0, 1]], "part": [[0, 1]], "line": [0, 1, 2], "any": None,
}
ERRORS = {
    "table": errors.InvalidTable, "mixture": errors.InvalidMixture, "number": errors.InvalidNumber,
    "many": errors.InvalidMany, "mixtures": errors.InvalidMixtures, "part": errors.InvalidPart,
    "line": errors.InvalidLine,
}
# each function with its parameters' kinds, in their sequence; a COUNT with its bounds
FUNCTIONS = {
    "tables.times": ["table", "mixture", "mixture"],
    "tables.added": ["table", "mixture", "mixture"],
    "tables.scaled": ["table", "mixture", "number"],
    "tables.power": ["table", "mixture", ("many", 1, 30)],
    "tables.one": ["table"],
    "tables.is_commuting": ["table"],
    "makers.beside": ["table", "table"],
    "makers.crossed": ["table", "table"],
    "makers.turned": ["table"],
    "makers.with_one": ["table"],
    "makers.in_letters": ["table", "part"],
    "makers.within": ["table", "part"],
    "makers.behind": ["table", "part"],
    "makers.led_behind": ["table", "part", "mixture"],
    "makers.numbers_table": [("many", 1, 2)],
    "makers.upper_table": [("many", 1, 3)],
    "makers.noughts": [("many", 1, 8)],
    "lefts.left_table": ["table", "mixture"],
    "lefts.right_table": ["table", "mixture"],
    "lefts.trace": ["table", "mixture"],
    "lefts.full_line": ["table", "mixture"],
    "lowest.line_at": ["table", "line", "mixture"],
    "lowest.least_line": ["table", "mixture"],
    "lowest.powers_part": ["table", "mixture"],
    "lowest.nothing_power": ["table", "mixture"],
    "undoing.undone": ["table", "mixture"],
    "undoing.killer": ["table", "mixture"],
    "undoing.is_killer": ["table", "mixture", "any"],
    "undoing.commuting": ["table", "mixtures"],
    "undoing.is_own_square": ["table", "any"],
    "lines.told": ["line"],
    "lines.degree": ["line"],
    "lines.plus": ["line", "line"],
    "lines.minus": ["line", "line"],
    "lines.scaled": ["line", "number"],
    "lines.derived": ["line"],
    "lines.times": ["line", "line"],
    "lines.worth": ["line", "number"],
    "lines.divided": ["line", "line"],
    "lines.common": ["line", "line"],
    "lines.bare": ["line"],
}
# these want a part of another size, or more than a good one
WANTS_MORE = ["makers.in_letters"]


def is_valid(kind, value):
    if isinstance(kind, tuple):
        return is_integer(value) and kind[1] <= value <= kind[2]
    return {
        "table": lambda: isinstance(value, Table),
        "mixture": lambda: is_numbers(value, SIZE, SIZE),
        "number": lambda: is_number(value),
        "mixtures": lambda: is_mixtures(value),
        "part": lambda: is_part(value, SIZE),
        "line": lambda: is_numbers(value, 0, 17),
    }[kind]()


def is_mixtures(value):
    return isinstance(value, (list, tuple)) and len(value) <= 8 and all(is_numbers(one, SIZE, SIZE) for one in value)


def word(kind):
    return kind[0] if isinstance(kind, tuple) else kind


def made(name):
    file, function = name.split(".")
    return getattr(importlib.import_module("producttables." + file), function)


class Wrong(Case):
    def test_good_values(self):
        for name, kinds in FUNCTIONS.items():
            if name not in WANTS_MORE:
                made(name)(*[GOOD[word(kind)] for kind in kinds])

    def test_each_parameter(self):
        for name, kinds in FUNCTIONS.items():
            for place, kind in enumerate(kinds):
                if word(kind) not in ERRORS:
                    continue
                ahead = [GOOD[word(one)] for one in kinds[:place]]
                behind = [GOOD[word(one)] for one in kinds[place + 1:]]
                for value in KINDS:
                    if is_valid(kind, value):
                        continue
                    with self.subTest(name=name, place=place, value=str(value)[:60]):
                        error = ERRORS[word(kind)]
                        self.fails(error, made(name), *ahead, value, *behind, value=value)
                        # whatever else is wrong behind it
                        self.fails(error, made(name), *ahead, value, *[None for _ in behind], value=value)


if __name__ == "__main__":
    unittest.main()
