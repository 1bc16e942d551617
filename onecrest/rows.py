"""Rows of numbers: their blends and dips, rows along lines, rows joined, an entry that is lost."""

from math import comb

from onecrest.basics import is_count, is_list
from onecrest.blends import Blend
from onecrest.checks import check_blend
from onecrest.errors import InvalidPosition, InvalidRow, InvalidWeights, NotEven, TooMany
from onecrest.ratios import Ratio, is_from_nought, ratio_of, ratios_of
from onecrest.worths import line_of

LEAST_IN_ROW = 2
MOST_IN_ROW = 9


def row_blend(row):
    """The blend that has each number of the row for a taken as often as its position tells, b else."""
    check_row(row)
    last = len(row) - 1
    return Blend("ab", [((k, last - k), number) for k, number in enumerate(row) if ratio_of(number).sign > 0])


def is_even(row):
    """Whether the row has no dip."""
    return dent_at(row) is None


def dent_at(row):
    """The least dip of the row, None without one."""
    check_row(row)
    for position in range(1, len(row) - 1):
        if is_dip(row, position):
            return position
    return None


def line_row(blend, first, second):
    """The amounts of the blend along two lists, that of the first one taken not at all ahead."""
    check_blend(blend)
    for numbers in (first, second):
        if not is_from_nought(numbers, len(blend.letters)):
            raise InvalidWeights(numbers)
    return line_of(blend, second, first)


def joined(row, other):
    """At each position the sum of the products of the numbers whose positions come to it together."""
    check_row(row)
    check_row(other)
    if len(row) + len(other) - 1 > MOST_IN_ROW:
        raise TooMany("row", MOST_IN_ROW)
    found = [Ratio(0) for _ in range(len(row) + len(other) - 1)]
    for position, number in enumerate(row):
        for place, factor in enumerate(other):
            found[position + place] = found[position + place] + ratio_of(number) * factor
    return found


def lost(row, position):
    """What the square of a lost number is at least, and what the number is at most, None without a limit."""
    check_row(row)
    _check_lost(row, position)
    shares = shares_of(row)
    last = len(row) - 1
    if any([shares_slack(shares, k).sign < 0 for k in range(1, last) if abs(k - position) > 1]):
        raise NotEven()
    ways = comb(last, position)
    limits = []
    for beside, beyond in ((position - 1, position - 2), (position + 1, position + 2)):
        if 0 <= beyond <= last:
            limits.append((shares[beside] * shares[beside] * ways).over(shares[beyond]))
    return shares[position - 1] * shares[position + 1] * ways * ways, _least(limits)


def check_row(row):
    """Asks for a row: 2 to 9 NUMBERS from 0 on, not all 0."""
    if not is_list(row) or not LEAST_IN_ROW <= len(row) <= MOST_IN_ROW or not is_from_nought(row, len(row)):
        raise InvalidRow(row)
    if all([number.sign == 0 for number in ratios_of(row)]):
        raise InvalidRow(row)


def shares_of(row):
    """Each number of a row over the number of ways to pick as many things as its position tells."""
    return [ratio_of(number).over(comb(len(row) - 1, k)) for k, number in enumerate(row)]


def shares_slack(shares, position):
    """A share times itself, less the product of both its neighbours."""
    return shares[position] * shares[position] - shares[position - 1] * shares[position + 1]


def is_dip(row, position):
    """Whether a position of a row, neither the first one nor the last one, is a dip."""
    return is_gap(row, position) or shares_slack(shares_of(row), position).sign < 0


def is_gap(row, position):
    """Whether a number is 0, with one above 0 ahead of it and one behind it."""
    signs = [number.sign for number in ratios_of(row)]
    return signs[position] == 0 and any(signs[:position]) and any(signs[position:])


def _check_lost(row, position):
    """Asks for a position with others on both sides, all others above 0."""
    if not is_count(position) or not 1 <= position <= len(row) - 2:
        raise InvalidPosition(position)
    others = list(row[:position]) + list(row[position + 1:])
    if any([number.sign == 0 for number in ratios_of(others)]):
        raise InvalidPosition(position)


def _least(numbers):
    """The least number, None of none."""
    least = None
    for number in numbers:
        if least is None or number.is_below(least):
            least = number
    return least
