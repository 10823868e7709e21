"""Rows of Ratios: sums, steps, and what rows kill or make. Nothing is checked here."""

from math import lcm

from producttables.ratios import Ratio


def noughts_row(wide):
    """A row of so many noughts."""
    return [Ratio(0) for _ in range(wide)]


def unit_row(wide, place):
    """The row with 1 at the place, 0 else."""
    return [Ratio(1) if at == place else Ratio(0) for at in range(wide)]


def unit_rows(wide):
    """All unit rows of this width: the square with 1 on its middle line."""
    return [unit_row(wide, place) for place in range(wide)]


def is_nought_row(row):
    """Whether all numbers of the row are 0."""
    for number in row:
        if number.sign != 0:
            return False
    return True


def row_plus(first, second):
    """The sum of two rows."""
    return [left + right for left, right in zip(first, second)]


def row_minus(first, second):
    """The difference of two rows."""
    return [left - right for left, right in zip(first, second)]


def row_scaled(row, number):
    """The row, each number of it multiplied."""
    return [one_number * number for one_number in row]


def combined(amounts, rows, wide):
    """The sum of the rows, each times the amount at its place."""
    added = noughts_row(wide)
    for amount, row in zip(amounts, rows):
        if amount.sign != 0:
            # most numbers of most tables are 0
            added = [have if number.sign == 0 else have + number * amount for have, number in zip(added, row)]
    return added


def dotted(first, second):
    """The sum of the products of both numbers at the same places."""
    return Ratio.total([left * right for left, right in zip(first, second)])


def head_place(row):
    """The place of the first number that is not 0, the width if there is none."""
    for place, number in enumerate(row):
        if number.sign != 0:
            return place
    return len(row)


def without_bottoms(row):
    """The row times the least number that makes all of it INTEGERS, as INTEGERS."""
    bottom = 1
    for number in row:
        bottom = lcm(bottom, number.bottom)
    return [number.top * (bottom // number.bottom) for number in row]


def pivot_from(rows, first, place):
    """The position, from the first one on, of a row of INTEGERS that is not 0 at the place."""
    for at in range(first, len(rows)):
        if rows[at][place] != 0:
            return at
    return None


def cleared(row, place, pivot, last):
    """The row of INTEGERS with 0 at the place, by taking the pivot row away."""
    head, amount = pivot[place], row[place]
    return [(head * number - amount * other) // last for number, other in zip(row, pivot)]


def reduced(rows):
    """The steps of rows of one width."""
    # INTEGERS alone, after Bareiss: each division is exact, and the heads of
    # all rows that are done are the same number, the last pivot.
    left = [without_bottoms(row) for row in rows]
    wide = len(left[0]) if left else 0
    done, last = 0, 1
    for place in range(wide):
        at = pivot_from(left, done, place)
        if at is None:
            continue
        pivot = left[at]
        ahead, behind = left[:done], left[done:at] + left[at + 1:]
        ahead = [cleared(row, place, pivot, last) for row in ahead]
        behind = [cleared(row, place, pivot, last) for row in behind]
        left = ahead + [pivot] + behind
        last = pivot[place]
        done += 1
    return [[Ratio(number, last) for number in row] for row in left[:done]]


def free_places(told, wide):
    """The places that are no heads of steps, rising."""
    heads = [head_place(row) for row in told]
    return [place for place in range(wide) if place not in heads]


def killed_by(rows, wide):
    """The steps of what the rows kill."""
    # looked at from the right, the places that are no heads are the heads of what is killed
    told = reduced([row[::-1] for row in rows])
    heads = [head_place(row) for row in told]
    found = []
    for free in free_places(told, wide)[::-1]:
        killed = unit_row(wide, free)
        for head, row in zip(heads, told):
            killed[head] = -row[free]
        found.append(killed[::-1])
    return found


def shared_by(rows, others, wide):
    """The steps of what both make."""
    # where rows and other rows add up to nought in the front half, the back half
    # tells what the rows alone add up to: the other rows make it, too
    twice = [row + row for row in rows]
    once = [row + noughts_row(wide) for row in others]
    return [row[wide:] for row in reduced(twice + once) if head_place(row) >= wide]


def amounts_of(rows, row):
    """Amounts by which the row is made of the rows, None if it is not made of them."""
    many = len(rows)
    equations = [[each[place] for each in rows] + [number] for place, number in enumerate(row)]
    amounts = noughts_row(many)
    for equation in reduced(equations):
        head = head_place(equation)
        if head == many:
            return None
        # amounts at places that are no heads are free: they stay 0
        amounts[head] = equation[many]
    return amounts


def makes_all(rows, others):
    """Whether all of the other rows are made of the rows."""
    told = reduced(rows)
    return len(reduced(told + others)) == len(told)


def turned_about(rows):
    """The columns of the rows as rows."""
    return [list(column) for column in zip(*rows)]


def rising(rows):
    """The rows by their width, those of one width number by number, the lesser number first."""
    bottom = 1
    for row in rows:
        for number in row:
            bottom = lcm(bottom, number.bottom)
    keys = []
    for place, row in enumerate(rows):
        worths = [number.top * (bottom // number.bottom) for number in row]
        keys.append([len(row)] + worths + [place])
    return [rows[key[-1]] for key in sorted(keys)]
