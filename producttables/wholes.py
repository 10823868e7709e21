"""Parting pairs of lines that are not whole, and papers of whole ones."""

from producttables.basics import is_integer, is_list, is_within
from producttables.checks import MOST_NUMBERS, line_from
from producttables.factors import need_degree
from producttables.lines import told
from producttables.linework import line_divided, line_times, trimmed
from producttables.wholework import (
    MOST_POWER, PRIMES_END, is_prime, line_factors, made_paper, shows_whole,
)


def parting_pair(line):
    """Two lines of degrees at least 1 whose product the line is; None if there are none."""
    first = told(line)
    need_degree(first)
    found = line_factors(first) if first else []
    if not found or len(found[0][0]) == len(first):
        return None
    factor = found[0][0]
    return factor, line_divided(first, factor)[0]


def is_parting_pair(line, value):
    """Whether any value is a parting pair of the line."""
    first = told(line)
    if not isinstance(value, tuple) or len(value) != 2:
        return False
    pair = [line_from(one) for one in value]
    if None in pair:
        return False
    ahead, behind = [trimmed(one) for one in pair]
    return len(ahead) > 1 and len(behind) > 1 and line_times(ahead, behind) == first


def whole_paper(line):
    """A whole paper of the line; None if it has none."""
    first = told(line)
    need_degree(first)
    return made_paper(first) if len(first) > 1 else None


def is_paper_part(value):
    """Whether any value is a list of INTEGERS of a degree of 1 or more, its last number 1."""
    if not is_list(value) or not 2 <= len(value) <= MOST_NUMBERS:
        return False
    return all([is_integer(number) for number in value]) and value[-1] == 1


def is_whole_paper(line, value):
    """Whether any value is a whole paper of the line."""
    first = told(line)
    need_degree(first)
    if len(first) < 2 or not isinstance(value, tuple) or len(value) != 3:
        return False
    prime, power, parts = value
    if not is_within(prime, 2, PRIMES_END - 1) or not is_prime(prime) or not is_within(power, 1, MOST_POWER):
        return False
    if not is_list(parts) or not all([is_paper_part(part) for part in parts]):
        return False
    return shows_whole(first, prime, power, [list(part) for part in parts])
