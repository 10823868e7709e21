"""Lines of INTEGERS that go into others, and whole ones. Nothing is checked here."""

from math import gcd

from producttables.linework import line_bare, line_divided, monic
from producttables.modwork import (
    has_squares, is_one_piece, kept_lines, mod_minus, mod_parts, mod_plus, mod_product, mod_rest, mod_scaled,
    mod_times, mod_told, mod_undone, number_undone,
)
from producttables.ratios import as_ratio
from producttables.rowwork import rising, without_bottoms

PRIMES_END = 60
MOST_POWER = 1000
# so many primes are looked at for one with few parts
TRIED = 6


def primitive(numbers):
    """The INTEGERS, the last one not 0, without their common divisor, the last one above 0."""
    shared = 0
    for number in numbers:
        shared = gcd(shared, number)
    if numbers[-1] < 0:
        shared = -shared
    return [number // shared for number in numbers]


def integer_line(line):
    """The INTEGER line of a told line that is not nought."""
    return primitive(without_bottoms(line))


def bound_of(whole):
    """What the numbers of no line of INTEGERS that goes into this one are above."""
    return sum([abs(number) for number in whole]) << (len(whole) - 1)


def least_power(whole, prime):
    """The least power of the prime that is greater than 2 times the head times the bound, its exponent ahead."""
    wanted = 2 * whole[-1] * bound_of(whole)
    power, made = 1, prime
    while made <= wanted:
        power, made = power + 1, made * prime
    return power, made


def is_prime(number):
    """Whether an INTEGER is a prime."""
    if number < 2:
        return False
    divisor = 2
    while divisor * divisor <= number:
        if number % divisor == 0:
            return False
        divisor += 1
    return True


def monic_modulo(whole, prime):
    """The line, modulo a prime that does not divide its head, times what makes its head 1."""
    return mod_scaled(whole, number_undone(whole[-1], prime), prime)


def serves(whole, prime):
    """Whether the prime does not divide the head, and the line has no squares modulo it."""
    return whole[-1] % prime != 0 and not has_squares(monic_modulo(whole, prime), prime)


def first_serving(whole, many):
    """The first primes below 60 that serve, so many at most."""
    found = []
    for number in range(2, PRIMES_END):
        if len(found) < many and is_prime(number) and serves(whole, number):
            found.append(number)
    return found


def serving_behind_end(whole):
    """The first prime above 60 that serves."""
    prime = PRIMES_END + 1
    while not is_prime(prime) or not serves(whole, prime):
        prime += 1
    return prime


def with_fewest_parts(whole, primes):
    """The first of the primes, one at least, modulo which the line has the fewest parts."""
    many = [len(kept_lines(monic_modulo(whole, prime), prime)) for prime in primes]
    return primes[many.index(min(many))]


def without_each(parts, head, modulus):
    """For each part the head times the product of the other parts."""
    found = []
    for place in range(len(parts)):
        others = mod_product(parts[:place] + parts[place + 1:], modulus)
        found.append(mod_scaled(others, head, modulus))
    return found


def lifted_parts(whole, prime, modulus):
    """The parts modulo the prime, led on to parts modulo the modulus, a power of it."""
    head, now = whole[-1], prime
    parts = mod_parts(monic_modulo(whole, prime), prime)
    # each part's maker makes 1 with the head times the other parts, modulo the part:
    # so all makers, each with the other parts, are 1 together
    makers = [mod_undone(others, part, prime) for others, part in zip(without_each(parts, head, prime), parts)]
    while now < modulus:
        now = min(now * now, modulus)
        lacking = mod_minus(whole, mod_scaled(mod_product(parts, now), head, now), now)
        parts = [mod_plus(part, mod_rest(mod_times(lacking, maker, now), part, now), now)
                 for part, maker in zip(parts, makers)]
        short = [1]
        for others, maker in zip(without_each(parts, head, now), makers):
            short = mod_minus(short, mod_times(others, maker, now), now)
        growth = mod_plus([1], short, now)
        makers = [mod_rest(mod_times(maker, growth, now), part, now) for part, maker in zip(parts, makers)]
    return parts


def least_size(number, modulus):
    """The number of the least size that is alike modulo the modulus, of two the one above 0."""
    told = number % modulus
    return told - modulus if 2 * told > modulus else told


def divided_whole(whole, part):
    """What the line of INTEGERS is divided by one without a common divisor; None if that does not go into it."""
    rest = list(whole)
    quotient = [0] * max(0, len(whole) - len(part) + 1)
    for shift in reversed(range(len(quotient))):
        amount = rest[shift + len(part) - 1]
        # what goes into a line of INTEGERS leaves one of INTEGERS [35]
        if amount % part[-1] != 0:
            return None
        quotient[shift] = amount // part[-1]
        for place, number in enumerate(part):
            rest[shift + place] = rest[shift + place] - quotient[shift] * number
    return None if any([number != 0 for number in rest]) else quotient


def lot_of(mask, parts):
    """The parts of the lot, and the other ones; a lot is told by a bit for each part."""
    inside = [part for place, part in enumerate(parts) if (mask >> place) & 1 == 1]
    outside = [part for place, part in enumerate(parts) if (mask >> place) & 1 == 0]
    return inside, outside


def lot_line(whole, lot, modulus):
    """The line without a common divisor that is told by the head times the product of a lot."""
    made = mod_scaled(mod_product(lot, modulus), whole[-1], modulus)
    return primitive([least_size(number, modulus) for number in made])


def falls(whole, parts, modulus):
    """The first lot, but none and all, that makes a factor, as a bit for each part; None if none does."""
    for mask in range(1, (1 << len(parts)) - 1):
        inside, _ = lot_of(mask, parts)
        if divided_whole(whole, lot_line(whole, inside, modulus)) is not None:
            return mask
    return None


def whole_pieces(whole, parts, modulus):
    """The whole lines of INTEGERS of which a line is the product that the parts tell."""
    mask = falls(whole, parts, modulus)
    if mask is None:
        return [whole]
    inside, outside = lot_of(mask, parts)
    piece = lot_line(whole, inside, modulus)
    rest = divided_whole(whole, piece)
    # the modulus was great enough for all that goes into the line
    return whole_pieces(piece, inside, modulus) + whole_pieces(rest, outside, modulus)


def bare_line(line):
    """The INTEGER line of the bare line of a told line that is not nought."""
    whole = integer_line(line)
    # where a prime serves there are no squares: the line is bare
    return whole if first_serving(whole, 1) else integer_line(line_bare(line))


def bare_factors(whole):
    """The whole lines with head 1 that go into an INTEGER line of degree 1 or more that is bare, rising."""
    primes = first_serving(whole, TRIED)
    prime = with_fewest_parts(whole, primes) if primes else serving_behind_end(whole)
    modulus = least_power(whole, prime)[1]
    pieces = whole_pieces(whole, lifted_parts(whole, prime, modulus), modulus)
    return rising([monic([as_ratio(number) for number in piece]) for piece in pieces])


def is_whole_line(line):
    """Whether a told line is whole."""
    if len(line) < 2:
        return False
    bare = bare_line(line)
    return len(bare) == len(line) and len(bare_factors(bare)) == 1


def times_within(line, factor):
    """How often the factor goes into a line that is not nought."""
    many, left = 0, line
    while True:
        quotient, rest = line_divided(left, factor)
        if rest:
            return many
        many, left = many + 1, quotient


def line_factors(line):
    """The factors of a told line that is not nought, each with how often it stands."""
    if len(line) < 2:
        return []
    return [(factor, times_within(line, factor)) for factor in bare_factors(bare_line(line))]


def made_paper(line):
    """A whole paper of a told line of degree 1 or more; None if it has none."""
    whole = integer_line(line)
    # the greater the prime, the sooner its powers are great enough
    primes = [prime for prime in first_serving(whole, PRIMES_END) if least_power(whole, prime)[0] <= MOST_POWER]
    if not primes:
        return None
    prime = with_fewest_parts(whole, primes[:TRIED])
    power, modulus = least_power(whole, prime)
    parts = lifted_parts(whole, prime, modulus)
    return None if falls(whole, parts, modulus) is not None else (prime, power, parts)


def raised(prime, power):
    """The prime, taken so many times."""
    made = 1
    for _ in range(power):
        made = made * prime
    return made


def is_alike(whole, parts, modulus):
    """Whether the head times the product of the parts is alike to the line."""
    # degrees first: a product of many long lines of great numbers is never made in vain
    if sum([len(part) - 1 for part in parts]) != len(whole) - 1:
        return False
    made = mod_scaled(mod_product(parts, modulus), whole[-1], modulus)
    return made == mod_told(whole, modulus)


def shows_whole(line, prime, power, parts):
    """Whether a prime, a power from 1 to 1,000 and lines of INTEGERS with head 1 are a whole paper of a told line."""
    whole = integer_line(line)
    least, _ = least_power(whole, prime)
    if power < least or not serves(whole, prime):
        return False
    modulus = raised(prime, power)
    if any([number < 0 or number >= modulus for part in parts for number in part]):
        return False
    if not is_alike(whole, parts, modulus):
        return False
    if not all([is_one_piece(mod_told(part, prime), prime) for part in parts]):
        return False
    return falls(whole, parts, modulus) is None
