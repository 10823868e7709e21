"""The answers to commands that ask for what is kept."""

from producttables.dying import dying_power
from producttables.lefts import full_line, trace
from producttables.lots import lots
from producttables.lowest import least_line
from producttables.parting import block_sizes
from producttables.rooms import traces_of
from producttables.rowwork import is_nought_row
from producttables.wordwork import joined_words, product_words, row_words


def room_words(room):
    """For each thing and each place of which it does not make nought both and the row of the thing's square."""
    found = []
    for thing, square in enumerate(room.squares()):
        for place, row in enumerate(square):
            if not is_nought_row(row):
                found.append(f"{thing} {place} {row_words(row)}")
    return found


def shown(kind, thing):
    """What is kept, in words."""
    if kind == "mixture":
        return row_words(thing[1])
    if kind == "part":
        return joined_words([row_words(row) for row in thing[1]])
    if kind == "table":
        return joined_words(product_words(thing.rows()))
    return joined_words(room_words(thing))


def sized(kind, thing):
    """The size of what is kept."""
    if kind == "mixture":
        return str(len([amount for amount in thing[1] if amount.sign != 0]))
    if kind == "part":
        return str(len(thing[1]))
    return str(thing.size)


def traced(kept):
    """The trace of a mixture."""
    return str(trace(kept[0], kept[1]))


def least_told(kept):
    """The numbers of the least line of a mixture."""
    return row_words(least_line(kept[0], kept[1]))


def full_told(kept):
    """The numbers of the full line of a mixture."""
    return row_words(full_line(kept[0], kept[1]))


def power_told(table):
    """The dying power of a table."""
    return str(dying_power(table))


def sizes_told(table):
    """The sizes of blocks and of their middles."""
    return joined_words([f"{size} {inside}" for size, inside in block_sizes(table)])


def traces_told(room):
    """The traces of the things in a room."""
    return row_words(traces_of(room))


def lots_told(room):
    """The lots of a room."""
    counts = lots(room)
    return " ".join([str(count) for count in counts]) if counts else "-"


ANSWERS = {
    "trace": traced, "least": least_told, "full": full_told, "power": power_told, "sizes": sizes_told,
    "traces": traces_told, "lots": lots_told,
}


def answer_of(word, thing):
    """The answer to a command with this word that asks for one thing."""
    tells = ANSWERS[word]
    return tells(thing)
