"""What a blend is worth at weights, along lines, and for rows: worth, slope, bend, polar numbers."""

from math import factorial

from onecrest.basics import is_list
from onecrest.checks import check_blend, check_direction, check_weights
from onecrest.errors import InvalidRows
from onecrest.ratios import Ratio, is_numbers


def worth(blend, weights):
    """The sum of the products at these weights, times their amounts."""
    check_blend(blend)
    check_weights(weights, len(blend.letters))
    return _term(line_of(blend, weights, [0] * len(weights)), 0)


def slope(blend, weights, direction):
    """The first change of the worth in the direction."""
    return _term(along(blend, weights, direction), 1)


def bend(blend, weights, direction):
    """The second change of the worth in the direction."""
    return _term(along(blend, weights, direction), 2) * 2


def lean(blend, weights, direction):
    """The worth times the bend, less the slope times the slope."""
    line = along(blend, weights, direction)
    first = _term(line, 1)
    return _term(line, 0) * _term(line, 2) * 2 - first * first


def bends_up(blend, weights, direction):
    """Whether the logarithm of the blend bends up there."""
    return lean(blend, weights, direction).sign > 0


def along(blend, weights, direction):
    """The numbers by which the worth at weights + t direction is a sum of powers of t."""
    check_blend(blend)
    check_weights(weights, len(blend.letters))
    check_direction(direction, len(blend.letters))
    return line_of(blend, weights, direction)


def polar(blend, rows):
    """The polar number of the blend for as many rows as its degree tells."""
    check_blend(blend)
    degree = 0 if blend.is_nought else blend.degree
    if not _is_rows(rows, degree, len(blend.letters)):
        raise InvalidRows(rows)
    amounts = {counts: amount for counts, amount in blend.entries()}
    for row in rows:
        amounts = _changed_along(amounts, row)
    return Ratio.total([amounts[counts] for counts in amounts]).over(factorial(degree))


def _is_rows(value, many, length):
    """Whether any value is a list of so many lists of so many NUMBERS."""
    return is_list(value) and len(value) == many and all([is_numbers(row, length) for row in value])


def _term(line, power):
    """What stands with a power of t, 0 where the line does not reach it."""
    return line[power] if power < len(line) else Ratio(0)


def line_of(blend, weights, direction):
    """As along, without asking."""
    if blend.is_nought:
        return []
    line = [Ratio(0)] * (blend.degree + 1)
    for counts, amount in blend.entries():
        part = [amount]
        for count, weight, change in zip(counts, weights, direction):
            for _ in range(count):
                part = _times_letter(part, weight, change)
        line = [one + two for one, two in zip(line, part)]
    return line


def _times_letter(line, weight, change):
    """The line times weight + t change."""
    kept = [number * weight for number in line] + [Ratio(0)]
    moved = [Ratio(0)] + [number * change for number in line]
    return [one + two for one, two in zip(kept, moved)]


def _changed_along(amounts, row):
    """The sum of what is left when each letter is taken out, times its number in the row."""
    found = {}
    for counts in amounts:
        for place, count in enumerate(counts):
            if count > 0:
                left = counts[:place] + (count - 1,) + counts[place + 1:]
                found[left] = found.get(left, Ratio(0)) + amounts[counts] * count * row[place]
    return found
