"""Numbers and rows as words, and words as numbers. Nothing is checked but the words."""

from math import gcd

from producttables.ratios import Ratio
from producttables.rowwork import is_nought_row

DIGITS = "0123456789"


def is_digits(word):
    """Whether the string has one digit or more, and nothing else."""
    return word != "" and all([sign in DIGITS for sign in word])


def count_from(word):
    """The COUNT that is written so; None if none is."""
    if not is_digits(word) or (word[0] == "0" and word != "0"):
        return None
    return int(word)


def integer_from(word):
    """The INTEGER that is written so; None if none is."""
    if not word.startswith("-"):
        return count_from(word)
    count = count_from(word[1:])
    return None if count is None or count == 0 else -count


def number_from(word):
    """The NUMBER that is written so, a Ratio; None if none is."""
    ahead, stroke, behind = word.partition("/")
    top = integer_from(ahead)
    bottom = count_from(behind) if stroke == "/" else 1
    if top is None or bottom is None or (stroke == "/" and (bottom < 2 or gcd(top, bottom) != 1)):
        return None
    return Ratio(top, bottom)


def row_words(row):
    """The numbers of a row of Ratios with one blank between them."""
    return " ".join([str(number) for number in row])


def product_words(rows):
    """For each two things whose product is not nought both places and the amounts of what they make."""
    found = []
    for i, row in enumerate(rows):
        for j, mixture in enumerate(row):
            if not is_nought_row(mixture):
                found.append(f"{i} {j} {row_words(mixture)}")
    return found


def joined_words(words):
    """The words with a comma and a blank between them, - for none."""
    return ", ".join(words) if words else "-"
