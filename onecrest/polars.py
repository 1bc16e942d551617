"""Slacks of polar numbers, and what shows that one is below 0."""

from onecrest.basics import is_list
from onecrest.checks import check_blend, check_direction
from onecrest.errors import InvalidRows, InvalidWeights, NotQuadric
from onecrest.judge import dent
from onecrest.ratios import Ratio, is_from_nought, is_numbers
from onecrest.worths import polar


def slack(blend, first, second, rows):
    """The square of the polar number of both, less the product of those of each one twice."""
    _check_quadric(blend)
    many = len(blend.letters)
    check_direction(first, many)
    if not is_from_nought(second, many):
        raise InvalidWeights(second)
    if not _is_rows(rows, blend.degree - 2, many):
        raise InvalidRows(rows)
    return _slack(blend, first, second, rows)


def polar_dent(blend):
    """A tuple of a direction, a row and further rows with a slack below 0; None if there is none."""
    _check_quadric(blend)
    told = dent(blend)
    if told is None:
        return None
    way, weights, direction = told
    rows = [_unit(blend.letters, letter) for letter in way]
    for _ in range(blend.degree - 2 - len(way)):
        rows.append(list(weights))
    return direction, weights, rows


def is_polar_dent(blend, value):
    """Whether any value is a polar dent of the blend."""
    _check_quadric(blend)
    if not isinstance(value, tuple) or len(value) != 3:
        return False
    first, second, rows = value
    many = len(blend.letters)
    if not is_numbers(first, many) or not is_from_nought(second, many) or not _is_rows(rows, blend.degree - 2, many):
        return False
    return _slack(blend, first, second, rows).sign < 0


def _check_quadric(blend):
    check_blend(blend)
    if blend.is_nought or blend.degree < 2:
        raise NotQuadric()


def _is_rows(value, many, length):
    """Whether any value is a list of so many rows of this length."""
    return is_list(value) and len(value) == many and all([is_from_nought(row, length) for row in value])


def _slack(blend, first, second, rows):
    """As slack, without asking."""
    further = list(rows)
    both = polar(blend, [first, second] + further)
    return both * both - polar(blend, [first, first] + further) * polar(blend, [second, second] + further)


def _unit(letters, letter):
    """The row with 1 at one letter and 0 elsewhere."""
    return [Ratio(1 if name == letter else 0) for name in letters]
