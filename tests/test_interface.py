"""Names, parameters and kinds that the document's interface lists."""

import importlib
import inspect
import unittest

from producttables import errors

# the parameters of each function, under the file that lists it
FUNCTIONS = {
    "basics": {"is_integer": "value", "is_count": "value"},
    "ratios": {"is_number": "value"},
    "steps": {
        "is_grid": "value", "steps": "grid", "rank": "grid", "made_of": "grid, row", "killed": "grid, wide",
        "joined": "grid, other", "shared": "grid, other",
    },
    "tables": {
        "bad_places": "rows", "times": "table, mixture, other", "added": "table, mixture, other",
        "scaled": "table, mixture, number", "power": "table, mixture, many", "one": "table",
        "is_commuting": "table",
    },
    "makers": {
        "beside": "table, other", "crossed": "table, other", "turned": "table", "with_one": "table",
        "in_letters": "table, part", "within": "table, part", "behind": "table, part",
        "led_behind": "table, part, mixture", "numbers_table": "many", "upper_table": "many", "line_table": "line",
        "four_table": "first, second", "noughts": "size",
    },
    "lefts": {
        "left_table": "table, mixture", "right_table": "table, mixture", "trace": "table, mixture",
        "full_line": "table, mixture",
    },
    "lowest": {
        "line_at": "table, line, mixture", "least_line": "table, mixture", "powers_part": "table, mixture",
        "nothing_power": "table, mixture",
    },
    "undoing": {
        "undone": "table, mixture", "killer": "table, mixture", "is_killer": "table, mixture, value",
        "commuting": "table, mixtures", "is_own_square": "table, value",
    },
    "lines": {
        "is_line": "value", "told": "line", "degree": "line", "plus": "line, other", "minus": "line, other",
        "scaled": "line, number", "derived": "line", "times": "line, other", "worth": "line, number",
        "divided": "line, other", "common": "line, other", "bare": "line",
    },
    "factors": {"factors": "line", "is_whole": "line"},
    "wholes": {
        "parting_pair": "line", "is_parting_pair": "line, value", "whole_paper": "line",
        "is_whole_paper": "line, value",
    },
    "traces": {"traces": "table", "trace_with": "table, mixture, other"},
    "parts": {
        "is_part": "table, value", "told_part": "table, part", "is_made": "table, part, mixture",
        "is_closed": "table, part", "is_side": "table, part", "part_times": "table, part, other",
        "part_power": "table, part, many", "closed_of": "table, mixtures", "side_of": "table, mixtures",
    },
    "dying": {
        "dying": "table", "dying_power": "table", "dies": "table, mixture", "partner": "table, mixture",
        "is_partner": "table, mixture, value", "dying_paper": "table, mixture",
        "is_dying_paper": "table, mixture, value",
    },
    "middle": {"middle": "table", "is_middle": "table, mixture", "full_one": "table"},
    "parting": {
        "parting": "table", "blocks": "table", "block_sizes": "table", "is_simple": "table",
        "is_parting": "table, value", "square_zero": "table, value",
    },
    "lifting": {"lifted": "table, mixtures", "is_lifted": "table, mixtures, value"},
    "partners": {"partners": "table"},
    "living": {
        "living": "table", "is_living": "table, value", "halves": "table, part, mixture",
        "lift": "table, part, mixture",
    },
    "turnings": {
        "turning": "table, part, other", "is_turning": "table, part, other, value",
        "turned_part": "table, part, mixture",
    },
    "rooms": {
        "acts": "room, mixture", "traces_of": "room", "is_full": "room", "own_room": "table",
        "is_kept": "room, value", "room_within": "room, grid", "room_behind": "room, grid",
        "room_beside": "room, other",
    },
    "lots": {
        "lots": "room", "nought_lot": "room", "is_split": "room", "layers": "room", "layer_lots": "room",
        "same_lots": "room, other",
    },
    "maps": {"maps": "room, other", "is_map": "room, other, value"},
    "turns": {"is_turns": "value", "group_table": "turns", "rings": "turns", "beside_room": "room, grid"},
    "webs": {"paths": "places, arrows", "web_table": "places, arrows"},
    "meets": {"meet_table": "lots", "meet_squares": "lots"},
    "texts": {"written": "thing"},
    "forms": {"read": "text"},
    "claims": {
        "words": "", "is_claim": "value", "is_true": "claim", "contrary": "claim", "paper_of": "claim",
        "is_paper_of": "claim, value",
    },
    "commands": {"is_name": "value", "is_command": "value", "is_deed": "value"},
    "desk": {"tried": "desk, action"},
}

# the methods and properties of each class
CLASSES = {
    ("ratios", "Ratio"): (
        "top, bottom=1",
        {
            "over": "self, other", "unsigned": "self", "is_below": "self, other", "is_at_most": "self, other",
            "total": "numbers", "__add__": "self, other", "__radd__": "self, other", "__sub__": "self, other",
            "__rsub__": "self, other", "__mul__": "self, other", "__rmul__": "self, other", "__neg__": "self",
            "__eq__": "self, other", "__str__": "self", "__repr__": "self",
        },
        ["top", "bottom", "sign", "is_whole"],
    ),
    ("tables", "Table"): (
        "rows",
        {"rows": "self", "thing": "self, place", "__eq__": "self, other", "__repr__": "self"},
        ["size"],
    ),
    ("rooms", "Room"): (
        "table, squares",
        {"squares": "self", "__eq__": "self, other", "__repr__": "self"},
        ["size", "table"],
    ),
    ("desk", "Desk"): (
        "",
        {
            "__len__": "self", "__getitem__": "self, name", "__contains__": "self, name", "__call__": "self, command",
            "claim_of": "self, label", "do": "self, command", "do_all": "self, *commands",
            "attempt": "self, *commands", "attach": "self, label, paper", "fits": "self, label", "lines": "self",
            "copy": "self", "again": "lines",
        },
        ["names", "labels"],
    ),
    ("desk", "Trial"): ("desk", {"__enter__": "self", "__exit__": "self, kind, value, trace"}, []),
}

ERRORS = {
    "MixError": (ValueError, {
        "value": "InvalidGrid InvalidLine InvalidMany InvalidMixture InvalidMixtures InvalidNumber InvalidPart"
                 " InvalidRoom InvalidTable InvalidClaim InvalidCommand InvalidLots InvalidPaper InvalidPlace"
                 " InvalidRow InvalidRows InvalidSquares InvalidThing InvalidTurns InvalidWeb",
        "": "DividedByZero", "position": "InvalidLines", "line": "InvalidText", "places": "NotGood",
    }),
    "MissingError": (LookupError, {"value": "UnknownLabel UnknownName"}),
    "StateError": (RuntimeError, {
        "position": "CommandFailed", "label": "LabelTaken", "name": "NameTaken", "places": "NotRoom",
        "": "Dying NoOne NotClosed NotDying NotGroup NotKept NotLiving NotSide NotUndone NotWhole NothingLeft"
            " NothingToRedo NothingToUndo NoughtLine UnlikeTables UnlikeWidths",
    }),
    "LimitError": (ArithmeticError, {"what, limit": "TooMany"}),
}


def module(name):
    return importlib.import_module("producttables." + name)


def parameters(function):
    return ", ".join(str(parameter) for parameter in inspect.signature(function).parameters.values())


class Interface(unittest.TestCase):
    def test_functions(self):
        for name, functions in FUNCTIONS.items():
            for word, told in functions.items():
                function = vars(module(name))[word]
                self.assertTrue(inspect.isfunction(function), word)
                self.assertEqual(function.__module__, "producttables." + name)
                self.assertEqual(function.__name__, word)
                self.assertEqual(parameters(function), told, word)

    def test_classes(self):
        for (name, word), (told, methods, properties) in CLASSES.items():
            made = vars(module(name))[word]
            self.assertEqual(made.__module__, "producttables." + name)
            self.assertEqual(made.__bases__, (object,))
            self.assertEqual(parameters(made), told)
            for method, told_there in methods.items():
                self.assertIn(method, vars(made))
                self.assertEqual(parameters(getattr(made, method)), told_there, method)
            for one in properties:
                self.assertIsInstance(vars(made)[one], property)
                self.assertIsNone(vars(made)[one].fset)

    def test_class_methods(self):
        self.assertIsInstance(vars(module("ratios").Ratio)["total"], classmethod)
        self.assertIsInstance(vars(module("desk").Desk)["again"], classmethod)

    def test_files(self):
        # each file of the document is there, and each of its names is defined in it
        for name in {*FUNCTIONS, *[name for name, _ in CLASSES], "errors"}:
            self.assertEqual(module(name).__name__, "producttables." + name)


class Errors(unittest.TestCase):
    def test_families(self):
        for name, (base, _) in ERRORS.items():
            self.assertEqual(getattr(errors, name).__bases__, (base,))
            self.assertEqual(getattr(errors, name).__module__, "producttables.errors")

    def test_each_error(self):
        seen = set(ERRORS)
        for name, (_, told) in ERRORS.items():
            for attributes, words in told.items():
                for word in words.split():
                    self.check(getattr(errors, word), getattr(errors, name), attributes)
                    seen.add(word)
        self.assertEqual({word for word, one in vars(errors).items() if inspect.isclass(one)}, seen)

    def check(self, error, family, attributes):
        self.assertEqual(error.__bases__, (family,))
        self.assertEqual(error.__module__, "producttables.errors")
        names = attributes.split(", ") if attributes else []
        # by its constructor's parameters: none, or the attributes
        if names:
            self.assertEqual(parameters(error), attributes)
        for values in ([None, ()], [[1, [2]], "things"], [{"a": 1}, errors], [3, True]):
            values = values[:len(names)]
            for made in (error(*values), error(**dict(zip(names, values)))):
                for name, value in zip(names, values):
                    self.assertIs(getattr(made, name), value)
                with self.assertRaises(family):
                    raise made


if __name__ == "__main__":
    unittest.main()
