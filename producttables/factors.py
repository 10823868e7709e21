"""The factors of lines, and whole lines."""

from producttables.errors import NoughtLine, TooMany
from producttables.lines import told
from producttables.wholework import is_whole_line, line_factors

MOST_DEGREE = 8


def need_degree(line):
    """Nothing, if the told line is of a degree that can be parted."""
    if len(line) - 1 > MOST_DEGREE:
        raise TooMany("degree", MOST_DEGREE)


def factors(line):
    """The list of tuples of a factor and how often it stands; of a number none."""
    first = told(line)
    if not first:
        raise NoughtLine()
    need_degree(first)
    return line_factors(first)


def is_whole(line):
    """Whether the line is whole."""
    first = told(line)
    need_degree(first)
    return is_whole_line(first)
