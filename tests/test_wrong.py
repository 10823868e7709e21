"""Each parameter's error, with values of every kind, and the first one of several."""

import importlib
import unittest

from producttables import errors
from producttables.tables import Table
from support import KINDS, Case, is_integer, is_number, is_numbers, is_part

SIZE = 2
GOOD = {
    "table": Table([[[1, 0], [0, 1]], [[0, 1], [0, 0]]]), "mixture": [1, 2], "number": 3, "many": 2,
}
ERRORS = {
    "table": errors.InvalidTable, "mixture": errors.InvalidMixture, "number": errors.InvalidNumber,
    "many": errors.InvalidMany,
}
# each function with its parameters' kinds, in their sequence; a COUNT with its bounds
FUNCTIONS = {
    "tables.times": ["table", "mixture", "mixture"],
    "tables.added": ["table", "mixture", "mixture"],
    "tables.scaled": ["table", "mixture", "number"],
    "tables.power": ["table", "mixture", ("many", 1, 30)],
    "tables.one": ["table"],
    "tables.is_commuting": ["table"],
}


def is_valid(kind, value):
    if isinstance(kind, tuple):
        return is_integer(value) and kind[1] <= value <= kind[2]
    return {
        "table": lambda: isinstance(value, Table),
        "mixture": lambda: is_numbers(value, SIZE, SIZE),
        "number": lambda: is_number(value),
    }[kind]()


def word(kind):
    return kind[0] if isinstance(kind, tuple) else kind


def made(name):
    file, function = name.split(".")
    return getattr(importlib.import_module("producttables." + file), function)


class Wrong(Case):
    def test_good_values(self):
        for name, kinds in FUNCTIONS.items():
            made(name)(*[GOOD[word(kind)] for kind in kinds])

    def test_each_parameter(self):
        for name, kinds in FUNCTIONS.items():
            for place, kind in enumerate(kinds):
                if word(kind) not in ERRORS:
                    continue
                ahead = [GOOD[word(one)] for one in kinds[:place]]
                behind = [GOOD[word(one)] for one in kinds[place + 1:]]
                for value in KINDS:
                    if is_valid(kind, value):
                        continue
                    with self.subTest(name=name, place=place, value=str(value)[:60]):
                        error = ERRORS[word(kind)]
                        self.fails(error, made(name), *ahead, value, *behind, value=value)
                        # whatever else is wrong behind it
                        self.fails(error, made(name), *ahead, value, *[None for _ in behind], value=value)


if __name__ == "__main__":
    unittest.main()
