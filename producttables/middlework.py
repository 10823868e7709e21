"""Full ones of the middle, and own squares of it, by the rows of a table in which nothing dies."""

from producttables.linework import line_divided
from producttables.partwork import middle_part
from producttables.products import least_line_of, line_made, one_of, product_of
from producttables.ratios import Ratio
from producttables.rowwork import amounts_of, combined, reduced, rising
from producttables.wholework import bare_factors, integer_line


def mixed_by_powers(part, number):
    """The sum of the mixtures of a part that is not nothing, each times a power of the number."""
    amounts = [Ratio(1)]
    while len(amounts) < len(part):
        amounts.append(amounts[-1] * number)
    return combined(amounts, part, len(part[0]))


def full_one_of(rows):
    """A full one and its least line."""
    part, unchanging = middle_part(rows), one_of(rows)
    # of the sums by powers of numbers, all but some are full: for each two of
    # the roots that are to be told apart only a few numbers do not tell them
    number = 0
    while True:
        tried = part if number == 0 else [mixed_by_powers(part, number)]
        for mixture in tried:
            line = least_line_of(rows, mixture, unchanging)
            if len(line) - 1 == len(part):
                return mixture, line
        number += 1


def own_square_at(rows, part, made):
    """The own square of the middle that changes nothing of what the mixture of the middle makes with it."""
    block = reduced([product_of(rows, made, mixture) for mixture in part])
    # the mixture is undone within its block: only the own square leads it to itself
    amounts = amounts_of([product_of(rows, made, mixture) for mixture in block], made)
    return combined(amounts, block, len(rows))


def parting_of(rows):
    """The least own squares of the middle, rising."""
    part, unchanging = middle_part(rows), one_of(rows)
    mixture, line = full_one_of(rows)
    found = []
    for factor in bare_factors(integer_line(line)):
        others = line_divided(line, factor)[0]
        found.append(own_square_at(rows, part, line_made(rows, others, mixture, unchanging)))
    return rising(found)


def is_one_block(rows):
    """Whether there is just one block."""
    return len(bare_factors(integer_line(full_one_of(rows)[1]))) == 1
