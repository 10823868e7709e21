"""Each parameter's error, with values of every kind, and the first one of several."""

import importlib
import unittest

from producttables import errors
from producttables.ratios import Ratio
from producttables.rooms import Room
from producttables.tables import Table
from support import KINDS, Case, is_grid, is_integer, is_number, is_numbers, is_part, plain

SIZE = 2
ROUND = Table([[[1, 0], [0, 1]], [[0, 1], [1, 0]]])
GOOD = {
    "table": Table([[[1, 0], [0, 1]], [[0, 1], [0, 0]]]), "mixture": [1, 2], "number": 3, "many": 2,
    "mixtures": [[1, 2], [0, 1]], "part": [[0, 1]], "line": [0, 1, 2], "any": None, "living": [[1, 0]],
    "dead": [0, 3], "led": [Ratio(2, 3)], "squares": [[1], [0]], "fine table": Table([[[2]]]),
    "room": Room(ROUND, ROUND.rows()), "grid": [[2, 2]], "turns": [[1, 0], [0, 1]], "arrows": [(0, 1)],
    "lots": [(), (0,)], "claim": ("dies", (ROUND, [1, 2])), "thing": [[1, 2], [2, 4]],
}
ERRORS = {
    "table": errors.InvalidTable, "mixture": errors.InvalidMixture, "number": errors.InvalidNumber,
    "many": errors.InvalidMany, "mixtures": errors.InvalidMixtures, "part": errors.InvalidPart,
    "line": errors.InvalidLine, "living": errors.InvalidPart, "dead": errors.InvalidMixture,
    "led": errors.InvalidMixture, "squares": errors.InvalidMixtures, "fine table": errors.InvalidTable,
    "room": errors.InvalidRoom, "grid": errors.InvalidGrid, "turns": errors.InvalidTurns, "arrows": errors.InvalidWeb,
    "lots": errors.InvalidLots, "claim": errors.InvalidClaim, "thing": errors.InvalidThing,
}
# each function with its parameters' kinds, in their sequence; a COUNT with its bounds
FUNCTIONS = {
    "tables.times": ["table", "mixture", "mixture"],
    "tables.added": ["table", "mixture", "mixture"],
    "tables.scaled": ["table", "mixture", "number"],
    "tables.power": ["table", "mixture", ("many", 1, 30)],
    "tables.one": ["table"],
    "tables.is_commuting": ["table"],
    "makers.beside": ["table", "table"],
    "makers.crossed": ["table", "table"],
    "makers.turned": ["table"],
    "makers.with_one": ["table"],
    "makers.in_letters": ["table", "part"],
    "makers.within": ["table", "part"],
    "makers.behind": ["table", "part"],
    "makers.led_behind": ["table", "part", "mixture"],
    "makers.numbers_table": [("many", 1, 2)],
    "makers.upper_table": [("many", 1, 3)],
    "makers.noughts": [("many", 1, 8)],
    "lefts.left_table": ["table", "mixture"],
    "lefts.right_table": ["table", "mixture"],
    "lefts.trace": ["table", "mixture"],
    "lefts.full_line": ["table", "mixture"],
    "lowest.line_at": ["table", "line", "mixture"],
    "lowest.least_line": ["table", "mixture"],
    "lowest.powers_part": ["table", "mixture"],
    "lowest.nothing_power": ["table", "mixture"],
    "undoing.undone": ["table", "mixture"],
    "undoing.killer": ["table", "mixture"],
    "undoing.is_killer": ["table", "mixture", "any"],
    "undoing.commuting": ["table", "mixtures"],
    "undoing.is_own_square": ["table", "any"],
    "lines.told": ["line"],
    "lines.degree": ["line"],
    "lines.plus": ["line", "line"],
    "lines.minus": ["line", "line"],
    "lines.scaled": ["line", "number"],
    "lines.derived": ["line"],
    "lines.times": ["line", "line"],
    "lines.worth": ["line", "number"],
    "lines.divided": ["line", "line"],
    "lines.common": ["line", "line"],
    "lines.bare": ["line"],
    "factors.factors": ["line"],
    "factors.is_whole": ["line"],
    "wholes.parting_pair": ["line"],
    "wholes.is_parting_pair": ["line", "any"],
    "wholes.whole_paper": ["line"],
    "wholes.is_whole_paper": ["line", "any"],
    "traces.traces": ["table"],
    "traces.trace_with": ["table", "mixture", "mixture"],
    "parts.is_part": ["table", "any"],
    "parts.told_part": ["table", "part"],
    "parts.is_made": ["table", "part", "mixture"],
    "parts.is_closed": ["table", "part"],
    "parts.is_side": ["table", "part"],
    "parts.part_times": ["table", "part", "part"],
    "parts.part_power": ["table", "part", ("many", 1, 9)],
    "parts.closed_of": ["table", "mixtures"],
    "parts.side_of": ["table", "mixtures"],
    "dying.dying": ["table"],
    "dying.dying_power": ["table"],
    "dying.dies": ["table", "mixture"],
    "dying.partner": ["table", "mixture"],
    "dying.is_partner": ["table", "mixture", "any"],
    "dying.dying_paper": ["table", "mixture"],
    "dying.is_dying_paper": ["table", "mixture", "any"],
    "middle.middle": ["table"],
    "middle.is_middle": ["table", "mixture"],
    "middle.full_one": ["fine table"],
    "parting.parting": ["fine table"],
    "parting.blocks": ["fine table"],
    "parting.block_sizes": ["fine table"],
    "parting.is_simple": ["table"],
    "parting.is_parting": ["table", "any"],
    "parting.square_zero": ["table", "any"],
    "lifting.lifted": ["table", "squares"],
    "lifting.is_lifted": ["table", "squares", "any"],
    "partners.partners": ["fine table"],
    "living.living": ["table"],
    "living.is_living": ["table", "any"],
    "living.halves": ["table", "living", "mixture"],
    "living.lift": ["table", "living", "led"],
    "turnings.turning": ["table", "living", "living"],
    "turnings.is_turning": ["table", "living", "living", "any"],
    "turnings.turned_part": ["table", "living", "dead"],
    "rooms.acts": ["room", "mixture"],
    "rooms.traces_of": ["room"],
    "rooms.is_full": ["room"],
    "rooms.own_room": ["table"],
    "rooms.is_kept": ["room", "any"],
    "rooms.room_within": ["room", "grid"],
    "rooms.room_behind": ["room", "grid"],
    "rooms.room_beside": ["room", "room"],
    "lots.lots": ["room"],
    "lots.nought_lot": ["room"],
    "lots.is_split": ["room"],
    "lots.layers": ["room"],
    "lots.layer_lots": ["room"],
    "lots.same_lots": ["room", "room"],
    "maps.maps": ["room", "room"],
    "maps.is_map": ["room", "room", "any"],
    "turns.group_table": ["turns"],
    "turns.rings": ["turns"],
    "turns.beside_room": ["room", "grid"],
    "webs.paths": [("many", 1, 4), "arrows"],
    "webs.web_table": [("many", 1, 4), "arrows"],
    "meets.meet_table": ["lots"],
    "meets.meet_squares": ["lots"],
    "texts.written": ["thing"],
    "claims.is_true": ["claim"],
    "claims.contrary": ["claim"],
    "claims.paper_of": ["claim"],
    "claims.is_paper_of": ["claim", "any"],
}
# these want a part of another size, or more than a good one
WANTS_MORE = ["makers.in_letters"]


def is_valid(kind, value):
    if isinstance(kind, tuple):
        return is_integer(value) and kind[1] <= value <= kind[2]
    return {
        # of the quotient by what dies, which has one thing here, 1 and 0 alone are own squares
        "led": lambda: is_numbers(value, 1, 1),
        "squares": lambda: is_squares(value),
        "living": lambda: is_part(value, SIZE),
        "dead": lambda: is_numbers(value, SIZE, SIZE),
        "fine table": lambda: isinstance(value, Table),
        "table": lambda: isinstance(value, Table),
        "mixture": lambda: is_numbers(value, SIZE, SIZE),
        "number": lambda: is_number(value),
        "mixtures": lambda: is_mixtures(value),
        "part": lambda: is_part(value, SIZE),
        "line": lambda: is_numbers(value, 0, 17),
        "room": lambda: isinstance(value, Room),
        "grid": lambda: is_grid(value) and (len(value) == 0 or len(value[0]) == SIZE),
        "turns": lambda: value in ([(1, 0), (0, 1)], ([1, 0], [0, 1])),
        "lots": lambda: value == ((),),
        "claim": lambda: False,
        "thing": lambda: is_thing(value),
        # without arrows
        "arrows": lambda: isinstance(value, (list, tuple)) and len(value) == 0,
    }[kind]()


def is_mixtures(value):
    return isinstance(value, (list, tuple)) and len(value) <= 8 and all(is_numbers(one, SIZE, SIZE) for one in value)


def is_squares(value):
    if not isinstance(value, (list, tuple)) or len(value) > 8 or not all(is_numbers(one, 1, 1) for one in value):
        return False
    return all(plain(one) in ([0], [1]) for one in value) and [plain(one) for one in value].count([1]) < 2


def is_thing(value):
    if isinstance(value, Table) or is_grid(value) or is_numbers(value, 1, 64):
        return True
    if not isinstance(value, (list, tuple)) or not 1 <= len(value) <= 8:
        return False
    size = len(value)
    return all(isinstance(row, (list, tuple)) and len(row) == size and all(is_numbers(one, size, size) for one in row)
               for row in value)


def word(kind):
    return kind[0] if isinstance(kind, tuple) else kind


def made(name):
    file, function = name.split(".")
    return getattr(importlib.import_module("producttables." + file), function)


class Wrong(Case):
    def test_good_values(self):
        for name, kinds in FUNCTIONS.items():
            if name not in WANTS_MORE:
                made(name)(*[GOOD[word(kind)] for kind in kinds])

    def test_each_parameter(self):
        for name, kinds in FUNCTIONS.items():
            for place, kind in enumerate(kinds):
                if word(kind) not in ERRORS:
                    continue
                ahead = [GOOD[word(one)] for one in kinds[:place]]
                behind = [GOOD[word(one)] for one in kinds[place + 1:]]
                for value in KINDS:
                    if is_valid(kind, value):
                        continue
                    with self.subTest(name=name, place=place, value=str(value)[:60]):
                        error = ERRORS[word(kind)]
                        self.fails(error, made(name), *ahead, value, *behind, value=value)
                        # whatever else is wrong behind it
                        self.fails(error, made(name), *ahead, value, *[None for _ in behind], value=value)


if __name__ == "__main__":
    unittest.main()
