"""The things that claims are made of, and whether claims are true."""

from producttables.checks import numbers_from, part_from
from producttables.dying import dies
from producttables.lots import is_split, same_lots
from producttables.parting import is_simple
from producttables.parts import is_closed
from producttables.products import one_of
from producttables.rooms import Room
from producttables.tables import Table
from producttables.undoing import undone

# the two words of each line
LINES = (
    ("dies", "lives"), ("undone", "kills"), ("simple", "parted"), ("closed", "open"), ("split", "held"),
    ("alike", "unlike"),
)


def line_with(word):
    """The two words of the line with this word; None if there is none."""
    for line in LINES:
        if word in line:
            return line
    return None


def copied(value):
    """The value with new lists and tuples, all the way down."""
    if isinstance(value, list):
        return [copied(one_value) for one_value in value]
    if isinstance(value, tuple):
        return tuple([copied(one_value) for one_value in value])
    return value


def is_pair(value):
    """Whether any value is a tuple of two."""
    return isinstance(value, tuple) and len(value) == 2


def is_table(thing):
    """Whether any value is a Table."""
    return isinstance(thing, Table)


def is_table_and_mixture(thing):
    """Whether any value is a tuple of a Table and a mixture of it."""
    if not is_pair(thing) or not is_table(thing[0]):
        return False
    return numbers_from(thing[1], thing[0].size, thing[0].size) is not None


def is_mixture_with_one(thing):
    """Whether any value is a tuple of a Table with a one and a mixture of it."""
    return is_table_and_mixture(thing) and one_of(thing[0].rows()) is not None


def is_table_and_part(thing):
    """Whether any value is a tuple of a Table and a part of it."""
    return is_pair(thing) and is_table(thing[0]) and part_from(thing[0].size, thing[1]) is not None


def is_room(thing):
    """Whether any value is a Room."""
    return isinstance(thing, Room)


def is_two_rooms(thing):
    """Whether any value is a tuple of two Rooms of equal tables."""
    return is_pair(thing) and is_room(thing[0]) and is_room(thing[1]) and thing[0].table == thing[1].table


def mixture_dies(thing):
    """Whether the mixture dies."""
    return dies(thing[0], thing[1])


def mixture_undone(thing):
    """Whether some mixture undoes the mixture."""
    return undone(thing[0], thing[1]) is not None


def table_simple(thing):
    """Whether the table is simple."""
    return is_simple(thing)


def part_closed(thing):
    """Whether the part is closed."""
    return is_closed(thing[0], thing[1])


def room_split(thing):
    """Whether the room is split."""
    return is_split(thing)


def rooms_alike(thing):
    """Whether both rooms have the same lots."""
    return same_lots(thing[0], thing[1])


# for the first word of each line: which things it has, and whether it is true of them
THINGS = {
    "dies": is_table_and_mixture, "undone": is_mixture_with_one, "simple": is_table, "closed": is_table_and_part,
    "split": is_room, "alike": is_two_rooms,
}
TRUTHS = {
    "dies": mixture_dies, "undone": mixture_undone, "simple": table_simple, "closed": part_closed,
    "split": room_split, "alike": rooms_alike,
}


def is_thing_of(line, thing):
    """Whether any value is the thing of claims with the words of the line."""
    fits_there = THINGS[line[0]]
    return fits_there(thing)


def first_is_true(line, thing):
    """Whether the claim with the first word of the line is true of the thing."""
    tells = TRUTHS[line[0]]
    return tells(thing)
