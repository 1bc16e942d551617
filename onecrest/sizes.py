"""How many lots have so many things, and whether such a row is even."""

from onecrest.basics import is_count, is_list
from onecrest.errors import InvalidMany, InvalidRow
from onecrest.lots import check_lots
from onecrest.ratios import Ratio, is_from_nought, ratio_of

MOST_IN_ROW = 9


def sizes(many, lots):
    """How many lots have no thing, one, and so on up to all."""
    check_lots(many, lots)
    return [len([lot for lot in lots if len(lot) == size]) for size in range(many + 1)]


def size_slacks(row, many):
    """The slacks of a row at all places but the first and the last one."""
    _check_row(row, many)
    slacks = []
    for k in range(1, many):
        factor = Ratio((k + 1) * (many - k + 1), k * (many - k))
        slacks.append(row[k] * row[k] - factor * row[k - 1] * row[k + 1])
    return slacks


def is_even_row(row, many):
    """Whether no slack is below 0, and no 0 stands between two numbers above 0."""
    slacks = size_slacks(row, many)
    places = [place for place, number in enumerate(row) if ratio_of(number).sign > 0]
    if places and places[-1] - places[0] >= len(places):
        return False
    return all([slack.sign >= 0 for slack in slacks])


def _check_row(row, many):
    if not is_list(row) or not 1 <= len(row) <= MOST_IN_ROW or not is_from_nought(row, len(row)):
        raise InvalidRow(row)
    if not is_count(many) or many != len(row) - 1:
        raise InvalidMany(many)
