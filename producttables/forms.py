"""Tables, grids and numbers, read from their written forms."""

from producttables.basics import is_within
from producttables.checks import MOST_ROWS, MOST_THINGS, MOST_WIDE
from producttables.errors import InvalidText
from producttables.rowwork import is_nought_row, noughts_row
from producttables.wordwork import count_from, number_from


def words_behind(line, word):
    """The words of the line behind the word; None if it does not begin with it."""
    words = line.split(" ")
    return words[1:] if words[0] == word else None


def numbers_behind(line, word, least, most):
    """The numbers of the line behind the word; None unless there are so many, and nothing else."""
    words = words_behind(line, word)
    if words is None or not least <= len(words) <= most:
        return None
    numbers = [number_from(one_word) for one_word in words]
    return None if None in numbers else numbers


def size_from(line):
    """The size that the second line of a table tells; None if it tells none."""
    words = words_behind(line, "size")
    if words is None or len(words) != 1:
        return None
    size = count_from(words[0])
    return size if is_within(size, 1, MOST_THINGS) else None


def product_from(line, size):
    """The places and the amounts, not nought, that a line of a table tells; None if it tells none."""
    words = words_behind(line, "times")
    if words is None or len(words) != size + 2:
        return None
    places = [count_from(word) for word in words[:2]]
    amounts = [number_from(word) for word in words[2:]]
    if not all([is_within(place, 0, size - 1) for place in places]) or None in amounts or is_nought_row(amounts):
        return None
    return places, amounts


def table_from(lines):
    """The rows that the lines of a table tell."""
    if len(lines) < 2:
        raise InvalidText(2)
    size = size_from(lines[1])
    if size is None:
        raise InvalidText(2)
    rows = [[noughts_row(size) for _ in range(size)] for _ in range(size)]
    last = [-1, -1]
    for position, line in enumerate(lines[2:]):
        product = product_from(line, size)
        if product is None or product[0] <= last:
            raise InvalidText(position + 3)
        last = product[0]
        rows[last[0]][last[1]] = product[1]
    return rows


def grid_told(lines):
    """The rows that the lines of a grid tell."""
    grid = []
    for position, line in enumerate(lines[1:]):
        least, most = (len(grid[0]), len(grid[0])) if grid else (1, MOST_WIDE)
        row = numbers_behind(line, "row", least, most)
        if row is None or len(grid) == MOST_ROWS:
            raise InvalidText(position + 2)
        grid.append(row)
    return grid


def numbers_told(lines):
    """The numbers that the one line of numbers tells."""
    numbers = numbers_behind(lines[0], "numbers", 1, MOST_WIDE)
    if numbers is None:
        raise InvalidText(1)
    if len(lines) > 1:
        raise InvalidText(2)
    return numbers


def thing_told(lines):
    """What the lines tell, each without its line feed."""
    if lines and lines[0] == "table":
        return table_from(lines)
    if lines and lines[0] == "grid":
        return grid_told(lines)
    if lines:
        return numbers_told(lines)
    raise InvalidText(1)


def read(text):
    """The rows, the grid or the numbers that have this written form."""
    if not isinstance(text, str):
        raise InvalidText(0)
    lines = text.split("\n")
    # what stands behind the last line feed is wrong, but lines ahead of it may be, too
    thing = thing_told(lines[:-1])
    if lines[-1] != "":
        raise InvalidText(len(lines))
    return thing
