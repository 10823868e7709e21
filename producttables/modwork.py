"""Lines of INTEGERS modulo a number, told without noughts at the end. Nothing is checked here."""


def mod_told(line, modulus):
    """The line with numbers from 0 to below the modulus, without the noughts at the end."""
    told = [number % modulus for number in line]
    while told and told[-1] == 0:
        told.pop()
    return told


def mod_plus(line, other, modulus):
    """The sum of both lines."""
    wide = max(len(line), len(other))
    first = line + [0] * (wide - len(line))
    second = other + [0] * (wide - len(other))
    return mod_told([left + right for left, right in zip(first, second)], modulus)


def mod_minus(line, other, modulus):
    """The line less the other one."""
    return mod_plus(line, [-number for number in other], modulus)


def mod_scaled(line, number, modulus):
    """The line, multiplied by the number."""
    return mod_told([each * number for each in line], modulus)


def mod_times(line, other, modulus):
    """The product of both lines."""
    if not line or not other:
        return []
    made = [0] * (len(line) + len(other) - 1)
    for i, left in enumerate(line):
        for j, right in enumerate(other):
            made[i + j] = made[i + j] + left * right
    return mod_told(made, modulus)


def mod_product(lines, modulus):
    """The product of all lines; 1 of none."""
    made = [1]
    for line in lines:
        made = mod_times(made, line, modulus)
    return made


def mod_divided(line, other, modulus):
    """The quotient and the rest of the line by another one whose head is 1."""
    rest = list(line)
    quotient = [0] * max(0, len(line) - len(other) + 1)
    for shift in reversed(range(len(quotient))):
        amount = rest[shift + len(other) - 1] % modulus
        quotient[shift] = amount
        for place, number in enumerate(other):
            rest[shift + place] = rest[shift + place] - amount * number
    return mod_told(quotient, modulus), mod_told(rest, modulus)


def mod_rest(line, other, modulus):
    """The rest of the line by another one whose head is 1."""
    return mod_divided(line, other, modulus)[1]


def mod_derived(line, modulus):
    """The line derived."""
    return mod_told([number * place for place, number in enumerate(line)][1:], modulus)


def number_undone(number, prime):
    """The number that makes 1 with one that the prime does not divide."""
    first, second = prime, number % prime
    ahead, behind = 0, 1
    while second != 0:
        many = first // second
        first, second = second, first - many * second
        ahead, behind = behind, ahead - many * behind
    return ahead % prime


def common_and_maker(line, other, prime):
    """The common part of both lines, and a line that makes it with the first one, modulo the other one."""
    # each line that is reached is what its maker makes with the first line
    first, second = other, line
    ahead, behind = [], [1]
    while second:
        scale = number_undone(second[-1], prime)
        second, behind = mod_scaled(second, scale, prime), mod_scaled(behind, scale, prime)
        quotient, rest = mod_divided(first, second, prime)
        first, second = second, rest
        ahead, behind = behind, mod_minus(ahead, mod_times(quotient, behind, prime), prime)
    return first, ahead


def mod_common(line, other, prime):
    """The common part of the line and another one whose head is 1."""
    return common_and_maker(line, other, prime)[0]


def mod_undone(line, other, prime):
    """The line that makes 1 with this one, modulo another one whose head is 1 and which has no part of it."""
    return mod_rest(common_and_maker(line, other, prime)[1], other, prime)


def letter_raised(many, line, modulus):
    """The letter t taken so many times, modulo the line, whose head is 1."""
    made, doubled = mod_rest([1], line, modulus), mod_rest([0, 1], line, modulus)
    while many > 0:
        if many & 1 == 1:
            made = mod_rest(mod_times(made, doubled, modulus), line, modulus)
        doubled = mod_rest(mod_times(doubled, doubled, modulus), line, modulus)
        many = many >> 1
    return made


def has_squares(line, prime):
    """Whether the square of a line of degree 1 or more goes into the line, whose head is 1."""
    return len(mod_common(mod_derived(line, prime), line, prime)) != 1


def mod_cleared(rows, wide, prime):
    """The rows, made of one another, such that those with noughts at all these places ahead stand last."""
    left, done = list(rows), 0
    for place in range(wide):
        at = [row for row in range(done, len(left)) if left[row][place] != 0]
        if not at:
            continue
        pivot = left.pop(at[0])
        scale = number_undone(pivot[place], prime)
        for row in range(done, len(left)):
            amount = left[row][place] * scale
            left[row] = [(number - amount * other) % prime for number, other in zip(left[row], pivot)]
        left.insert(done, pivot)
        done += 1
    return left


def kept_lines(line, prime):
    """Lines of which all are made that, taken so often as the prime is, stay what they are modulo the line."""
    # after Berlekamp: of a line without squares there are as many as it has parts
    wide = len(line) - 1
    step, made, rows = letter_raised(prime, line, prime), [1], []
    for place in range(wide):
        letter = [0] * place + [1]
        differ = mod_minus(made, letter, prime)
        unit = [1 if at == place else 0 for at in range(wide)]
        rows.append(differ + [0] * (wide - len(differ)) + unit)
        made = mod_rest(mod_times(made, step, prime), line, prime)
    cleared = mod_cleared(rows, wide, prime)
    return [mod_told(row[wide:], prime) for row in cleared if row[:wide] == [0] * wide]


def is_one_piece(line, prime):
    """Whether the line, of degree 1 or more and with head 1, is of one piece."""
    return not has_squares(line, prime) and len(kept_lines(line, prime)) == 1


def split_by(part, kept, prime):
    """The parts into which a line falls that is kept."""
    found = []
    for number in range(prime):
        common = mod_common(mod_minus(kept, [number], prime), part, prime)
        if len(common) > 1:
            found.append(common)
    return found


def mod_parts(line, prime):
    """The parts of one piece, with head 1, of a line with head 1 without squares."""
    kept_ones = kept_lines(line, prime)
    parts = [line]
    for kept in kept_ones:
        if len(parts) < len(kept_ones):
            parts = [piece for part in parts for piece in split_by(part, kept, prime)]
    return parts
