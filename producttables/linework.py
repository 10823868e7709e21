"""Lines of Ratios, told without noughts at the end. Nothing is checked here."""

from producttables.ratios import Ratio


def trimmed(numbers):
    """The numbers without the noughts at the end."""
    many = len(numbers)
    while many > 0 and numbers[many - 1].sign == 0:
        many -= 1
    return numbers[:many]


def monic(line):
    """The line, told, times the number that makes its head 1; nought is nought."""
    return [number.over(line[-1]) for number in line]


def line_plus(line, other):
    """The sum of both lines."""
    wide = max(len(line), len(other))
    first = line + [Ratio(0)] * (wide - len(line))
    second = other + [Ratio(0)] * (wide - len(other))
    return trimmed([left + right for left, right in zip(first, second)])


def line_scaled(line, number):
    """The line, multiplied by the number."""
    return trimmed([one_number * number for one_number in line])


def line_times(line, other):
    """The product of both lines."""
    made = [Ratio(0)] * (len(line) + len(other) - 1)
    for i, left in enumerate(line):
        for j, right in enumerate(other):
            made[i + j] = made[i + j] + left * right
    return trimmed(made)


def line_divided(line, other):
    """The quotient and the rest of the line by another one that is not nought."""
    rest = list(line)
    many = max(0, len(line) - len(other) + 1)
    quotient = [Ratio(0)] * many
    for shift in reversed(range(many)):
        amount = rest[shift + len(other) - 1].over(other[-1])
        quotient[shift] = amount
        for place, number in enumerate(other):
            rest[shift + place] = rest[shift + place] - amount * number
    return trimmed(quotient), trimmed(rest)


def line_derived(line):
    """The line derived."""
    return trimmed([number * place for place, number in enumerate(line)][1:])


def line_common(line, other):
    """The line of the greatest degree that goes into both, its head 1; nought of two noughts."""
    first, second = monic(line), monic(other)
    while second:
        rest = line_divided(first, second)[1]
        first, second = second, monic(rest)
    return first


def line_bare(line):
    """The bare line of a line that is not nought."""
    whole = line_divided(line, line_common(line, line_derived(line)))[0]
    return monic(whole)


def line_worth(line, number):
    """What the line comes to with the number for t."""
    worth = Ratio(0)
    for coefficient in line[::-1]:
        worth = worth * number + coefficient
    return worth
