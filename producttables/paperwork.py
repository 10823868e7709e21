"""Papers of claims: made ones, and whether any value is one. Things are checked ahead of it."""

from producttables.basics import is_integer, is_list, is_within
from producttables.checks import numbers_from, part_from, rows_from
from producttables.deadwork import dying_part, traces_beside
from producttables.dying import dying_paper, is_dying_paper, is_partner, partner
from producttables.lots import is_split, same_lots
from producttables.middle import full_one
from producttables.parting import parting
from producttables.partwork import middle_part, rows_within
from producttables.products import least_line_of, one_of, product_of
from producttables.rooms import acts, traces_of
from producttables.rowwork import is_nought_row, makes_all, reduced
from producttables.undoing import is_killer, killer, undone
from producttables.wholes import is_whole_paper, whole_paper


def is_tuple_of(value, many):
    """Whether any value is a tuple of so many."""
    return isinstance(value, tuple) and len(value) == many


def paper_dies(thing):
    """A side part with a power that is nothing, of which the mixture is made."""
    return dying_paper(thing[0], thing[1])


def shows_dies(thing, value):
    """Whether any value is such a part."""
    return is_dying_paper(thing[0], thing[1], value)


def paper_lives(thing):
    """A partner."""
    return partner(thing[0], thing[1])


def shows_lives(thing, value):
    """Whether any value is a partner."""
    return is_partner(thing[0], thing[1], value)


def paper_undone(thing):
    """The mixture that undoes the mixture."""
    return undone(thing[0], thing[1])


def shows_undone(thing, value):
    """Whether any value is the mixture that undoes the mixture."""
    mixture = numbers_from(value, thing[0].size, thing[0].size)
    return mixture is not None and undone(thing[0], thing[1]) == mixture


def paper_kills(thing):
    """A killer."""
    return killer(thing[0], thing[1])


def shows_kills(thing, value):
    """Whether any value is a killer."""
    return is_killer(thing[0], thing[1], value)


def paper_simple(table):
    """A full one with a paper that its least line is whole, if nothing dies."""
    if dying_part(table.rows()):
        return None
    mixture, line = full_one(table)
    paper = whole_paper(line)
    return None if paper is None else (mixture, paper)


def shows_simple(table, value):
    """Whether any value is a full one with a paper that its least line is whole, and nothing dies."""
    rows = table.rows()
    if not is_tuple_of(value, 2) or dying_part(rows):
        return False
    mixture, part = numbers_from(value[0], len(rows), len(rows)), middle_part(rows)
    if mixture is None or not makes_all(part, [mixture]):
        return False
    line = least_line_of(rows, mixture, one_of(rows))
    return len(line) - 1 == len(part) and is_whole_paper(line, value[1])


def paper_parted(table):
    """A mixture that dies, or an own square of the middle, neither nought nor the one."""
    dead = dying_part(table.rows())
    if dead:
        return "dying", dead[0]
    squares = parting(table)
    return ("square", squares[0]) if len(squares) > 1 else None


def shows_parted(table, value):
    """Whether any value is such a mixture behind its word."""
    rows = table.rows()
    if not is_tuple_of(value, 2) or not isinstance(value[0], str):
        return False
    mixture = numbers_from(value[1], len(rows), len(rows))
    if mixture is None or is_nought_row(mixture):
        return False
    if value[0] == "dying":
        return is_nought_row(traces_beside(rows, mixture))
    if value[0] != "square" or not makes_all(middle_part(rows), [mixture]):
        return False
    return product_of(rows, mixture, mixture) == mixture and one_of(rows) != mixture


def paper_closed(thing):
    """For each two rows of the told part the numbers by which their product is made."""
    return rows_within(thing[0].rows(), reduced(part_of(thing)))


def part_of(thing):
    """The part as a list of mixtures."""
    return part_from(thing[0].size, thing[1])


def shows_closed(thing, value):
    """Whether any value is the list of these numbers for each two rows."""
    wanted = paper_closed(thing)
    if wanted is None or not is_list(value) or len(value) != len(wanted):
        return False
    # the rows are not made of one another: the numbers are single
    return [rows_from(rows, len(wanted), len(wanted), len(wanted)) for rows in value] == wanted


def product_missed(thing, i, j):
    """Whether row i times row j of the told part is not made of it."""
    told = reduced(part_of(thing))
    return not makes_all(told, [product_of(thing[0].rows(), told[i], told[j])])


def paper_open(thing):
    """The first two places of rows of the told part whose product is not made of it."""
    places = range(len(part_of(thing)))
    for i in places:
        for j in places:
            if product_missed(thing, i, j):
                return i, j
    return None


def shows_open(thing, value):
    """Whether any value is two such places."""
    if not is_tuple_of(value, 2):
        return False
    most = len(part_of(thing)) - 1
    return all([is_within(place, 0, most) for place in value]) and product_missed(thing, value[0], value[1])


def paper_split(room):
    """The dying part, if the room is split."""
    return dying_part(room.table.rows()) if is_split(room) else None


def shows_split(room, value):
    """Whether any value is a part that is the same as the dying part, and the room is split."""
    part = part_from(room.table.size, value)
    return part is not None and reduced(part) == dying_part(room.table.rows()) and is_split(room)


def paper_held(room):
    """A mixture that dies, and a place of which it does not make nought."""
    for mixture in dying_part(room.table.rows()):
        for place, row in enumerate(acts(room, mixture)):
            if not is_nought_row(row):
                return mixture, place
    return None


def shows_held(room, value):
    """Whether any value is such a mixture and such a place."""
    rows = room.table.rows()
    if not is_tuple_of(value, 2) or not is_within(value[1], 0, room.size - 1):
        return False
    mixture = numbers_from(value[0], len(rows), len(rows))
    if mixture is None or not is_nought_row(traces_beside(rows, mixture)):
        return False
    return not is_nought_row(acts(room, mixture)[value[1]])


def paper_alike(rooms):
    """The size and the traces of both rooms."""
    return (rooms[0].size, traces_of(rooms[0])) if same_lots(rooms[0], rooms[1]) else None


def shows_alike(rooms, value):
    """Whether any value is the size and the traces of both rooms."""
    if not is_tuple_of(value, 2) or not is_integer(value[0]) or not same_lots(rooms[0], rooms[1]):
        return False
    told = traces_of(rooms[0])
    return value[0] == rooms[0].size and numbers_from(value[1], len(told), len(told)) == told


def paper_unlike(rooms):
    """The word for sizes that are unlike, or the first place of a thing with unlike traces."""
    if rooms[0].size != rooms[1].size:
        return "size"
    for place, (first, second) in enumerate(zip(traces_of(rooms[0]), traces_of(rooms[1]))):
        if first != second:
            return place
    return None


def shows_unlike(rooms, value):
    """Whether any value is the word, if sizes are unlike, or the place of a thing with unlike traces."""
    if isinstance(value, str):
        return value == "size" and rooms[0].size != rooms[1].size
    if not is_within(value, 0, rooms[0].table.size - 1):
        return False
    return traces_of(rooms[0])[value] != traces_of(rooms[1])[value]


MADE = {
    "dies": paper_dies, "lives": paper_lives, "undone": paper_undone, "kills": paper_kills, "simple": paper_simple,
    "parted": paper_parted, "closed": paper_closed, "open": paper_open, "split": paper_split, "held": paper_held,
    "alike": paper_alike, "unlike": paper_unlike,
}
SHOWN = {
    "dies": shows_dies, "lives": shows_lives, "undone": shows_undone, "kills": shows_kills, "simple": shows_simple,
    "parted": shows_parted, "closed": shows_closed, "open": shows_open, "split": shows_split, "held": shows_held,
    "alike": shows_alike, "unlike": shows_unlike,
}


def made_paper_of(word, thing):
    """A paper of the claim with this word; None if it has none."""
    makes = MADE[word]
    return makes(thing)


def shows(word, thing, value):
    """Whether any value is a paper of the claim with this word."""
    judges = SHOWN[word]
    return judges(thing, value)
