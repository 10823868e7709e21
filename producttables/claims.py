"""Claims, their contraries and their papers."""

from producttables.claimwork import LINES, copied, first_is_true, is_pair, is_thing_of, line_with
from producttables.errors import InvalidClaim
from producttables.paperwork import made_paper_of, shows


def words():
    """The list of the tuples of the two words of each line."""
    return [(first, second) for first, second in LINES]


def is_claim(value):
    """Whether any value is a tuple of a word and a thing of its kind."""
    if not is_pair(value) or not isinstance(value[0], str):
        return False
    line = line_with(value[0])
    return line is not None and is_thing_of(line, value[1])


def need_claim(claim):
    """The line of the word of a claim."""
    if not is_claim(claim):
        raise InvalidClaim(claim)
    return line_with(claim[0])


def is_true(claim):
    """Whether the claim is true."""
    line = need_claim(claim)
    return first_is_true(line, claim[1]) == (claim[0] == line[0])


def contrary(claim):
    """The claim with the other word of its line."""
    first, second = need_claim(claim)
    return (second if claim[0] == first else first), copied(claim[1])


def paper_of(claim):
    """A paper of the claim; None if it has none."""
    need_claim(claim)
    return made_paper_of(claim[0], claim[1])


def is_paper_of(claim, value):
    """Whether any value is a paper of the claim."""
    need_claim(claim)
    return shows(claim[0], claim[1], value)
