"""What deeds make: each a kind and a thing of it, as a desk keeps them."""

from producttables.dying import dying
from producttables.errors import InvalidMixture, InvalidPlace, NoOne, NotUndone, UnlikeTables
from producttables.living import living
from producttables.makers import (
    behind, beside, crossed, four_table, line_table, noughts, numbers_table, turned, upper_table, with_one, within,
)
from producttables.middle import middle
from producttables.parting import blocks
from producttables.parts import closed_of, side_of, told_part
from producttables.rooms import own_room, room_beside
from producttables.tables import added, one, scaled, times
from producttables.turns import group_table
from producttables.undoing import undone
from producttables.webs import web_table


def need_equal(table, other):
    """Nothing, if both tables are equal."""
    if table != other:
        raise UnlikeTables()


def make_numbers(many):
    """A table of numbers."""
    return "table", numbers_table(many)


def make_upper(many):
    """An upper table."""
    return "table", upper_table(many)


def make_noughts(many):
    """A table of noughts."""
    return "table", noughts(many)


def make_powers(numbers):
    """The table of a line."""
    return "table", line_table(numbers)


def make_four(first, second):
    """A table of four."""
    return "table", four_table(first, second)


def make_web(places, arrows):
    """The table of a web."""
    return "table", web_table(places, arrows)


def make_group(turns):
    """The table of a group of turns."""
    return "table", group_table(turns)


def make_beside(table, other):
    """Two tables beside one another."""
    return "table", beside(table, other)


def make_crossed(table, other):
    """Two tables crossed."""
    return "table", crossed(table, other)


def make_turned(table):
    """A table turned about."""
    return "table", turned(table)


def make_withone(table):
    """A table with a one put in."""
    return "table", with_one(table)


def make_within(kept):
    """The table within a closed part."""
    return "table", within(kept[0], kept[1])


def make_behind(kept):
    """The table behind a side part."""
    return "table", behind(kept[0], kept[1])


def make_mixture(table, numbers):
    """A mixture of these amounts."""
    if len(numbers) != table.size:
        raise InvalidMixture(numbers)
    return "mixture", (table, numbers)


def make_one(table):
    """The one."""
    unchanging = one(table)
    if unchanging is None:
        raise NoOne()
    return "mixture", (table, unchanging)


def make_times(kept, other):
    """One mixture times another one."""
    need_equal(kept[0], other[0])
    return "mixture", (kept[0], times(kept[0], kept[1], other[1]))


def make_added(kept, other):
    """The sum of two mixtures."""
    need_equal(kept[0], other[0])
    return "mixture", (kept[0], added(kept[0], kept[1], other[1]))


def make_scaled(kept, number):
    """A mixture, multiplied by a number."""
    return "mixture", (kept[0], scaled(kept[0], kept[1], number))


def make_undone(kept):
    """What undoes a mixture."""
    made = undone(kept[0], kept[1])
    if made is None:
        raise NotUndone()
    return "mixture", (kept[0], made)


def make_part(mixtures):
    """The part of these mixtures, told."""
    table = mixtures[0][0]
    for kept in mixtures:
        need_equal(table, kept[0])
    return "part", (table, told_part(table, [kept[1] for kept in mixtures]))


def make_dying(table):
    """The dying part."""
    return "part", (table, dying(table))


def make_middle(table):
    """The middle."""
    return "part", (table, middle(table))


def make_living(table):
    """A living part."""
    return "part", (table, living(table))


def make_block(table, place):
    """The block at the place."""
    found = blocks(table)
    if place >= len(found):
        raise InvalidPlace(place)
    return "part", (table, found[place])


def make_side(kept):
    """The least side part with a part."""
    return "part", (kept[0], side_of(kept[0], kept[1]))


def make_closed(kept):
    """The least closed part with a part."""
    return "part", (kept[0], closed_of(kept[0], kept[1]))


def make_room(table):
    """The own room of a table."""
    return "room", own_room(table)


def make_both(room, other):
    """Two rooms beside one another."""
    return "room", room_beside(room, other)


MAKERS = {
    "numbers": make_numbers, "upper": make_upper, "noughts": make_noughts, "powers": make_powers, "four": make_four,
    "web": make_web, "group": make_group, "beside": make_beside, "crossed": make_crossed, "turned": make_turned,
    "withone": make_withone, "within": make_within, "behind": make_behind, "mixture": make_mixture, "one": make_one,
    "times": make_times, "added": make_added, "scaled": make_scaled, "undone": make_undone, "part": make_part,
    "dying": make_dying, "middle": make_middle, "living": make_living, "block": make_block, "side": make_side,
    "closed": make_closed, "room": make_room, "both": make_both,
}


def made_by(word, given):
    """The kind and the thing that a deed with this word, which keeps something new, makes of what is given."""
    maker = MAKERS[word]
    return maker(*given)


def with_amount(kept, place, number):
    """The mixture with another amount at the place."""
    table, amounts = kept
    if place >= len(amounts):
        raise InvalidPlace(place)
    return "mixture", (table, amounts[:place] + [number] + amounts[place + 1:])
