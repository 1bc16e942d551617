"""Rows of as many numbers as there are rows: their forms, permanents, twins, no-choice papers, even rows."""

from math import factorial

from onecrest.basics import is_count, is_rising_counts
from onecrest.blends import Blend
from onecrest.checks import is_square_from_nought
from onecrest.choices import all_lots
from onecrest.errors import InvalidPosition, InvalidRows, NotEven
from onecrest.ratios import Ratio, ratio_of
from onecrest.tables import ratio_rows

ROW_LETTERS = "abcde"


def forms_blend(rows):
    """The product of the forms of all rows."""
    check_rows(rows)
    letters = ROW_LETTERS[:len(rows)]
    found = Blend(letters, [([0] * len(rows), 1)])
    for row in ratio_rows(rows):
        units = [[1 if at == place else 0 for at in range(len(rows))] for place in range(len(rows))]
        found = found * Blend(letters, [(unit, number) for unit, number in zip(units, row) if number.sign > 0])
    return found


def permanent(rows):
    """The sum over all choices of the product of the entries."""
    check_rows(rows)
    return _permanent(ratio_rows(rows))


def twin_slack(rows, first, second):
    """The permanent times itself, less the product of those with each of two rows in both places."""
    check_rows(rows)
    for position in (first, second):
        if not is_count(position) or position >= len(rows):
            raise InvalidPosition(position)
    if first == second:
        raise InvalidPosition(second)
    both = permanent(rows)
    return both * both - _with_twin(rows, first, second) * _with_twin(rows, second, first)


def no_choice(rows):
    """A tuple of rows and columns, together more than there are rows, with noughts alone; None without one."""
    check_rows(rows)
    for lot in all_lots(len(rows)):
        columns = [column for column in range(len(rows)) if _is_nought_at(rows, lot, [column])]
        if len(lot) + len(columns) > len(rows):
            return list(lot), columns
    return None


def is_no_choice(rows, value):
    """Whether any value is a no-choice paper of the rows."""
    check_rows(rows)
    if not isinstance(value, tuple) or len(value) != 2:
        return False
    if not all([is_rising_counts(part, len(rows)) for part in value]):
        return False
    lot, columns = value
    return len(lot) + len(columns) > len(rows) and _is_nought_at(rows, lot, columns)


def is_even_rows(rows):
    """Whether each row and each column adds up to 1."""
    check_rows(rows)
    columns = [[row[place] for row in rows] for place in range(len(rows))]
    return all([Ratio.total(numbers) == Ratio(1) for numbers in list(rows) + columns])


def even_slack(rows):
    """The permanent of even rows, less the least one of so many."""
    if not is_even_rows(rows):
        raise NotEven()
    return permanent(rows) - least_permanent(len(rows))


def least_permanent(many):
    """n! over n taken n times as a factor: the least permanent of so many even rows."""
    bottom = 1
    for _ in range(many):
        bottom = bottom * many
    return Ratio(factorial(many), bottom)


def choice(rows):
    """For each row the position of an entry above 0, unlike positions; None if there is no choice."""
    found = [[]]
    for row in rows:
        places = [place for place, number in enumerate(row) if ratio_of(number).sign > 0]
        found = [begun + [place] for begun in found for place in places if place not in begun]
    return found[0] if found else None


def check_rows(rows):
    if not is_square_from_nought(rows):
        raise InvalidRows(rows)


def _permanent(rows):
    """As permanent, of rows of Ratios, perhaps none: along the first row."""
    if len(rows) == 0:
        return Ratio(1)
    parts = []
    for place, number in enumerate(rows[0]):
        if number.sign > 0:
            parts.append(number * _permanent([row[:place] + row[place + 1:] for row in rows[1:]]))
    return Ratio.total(parts)


def _with_twin(rows, place, other):
    """The permanent with the row of one place in another place, too."""
    return permanent([rows[place] if at == other else row for at, row in enumerate(rows)])


def _is_nought_at(rows, lot, columns):
    """Whether all entries in these rows and columns are 0."""
    return all([ratio_of(rows[row][column]).sign == 0 for row in lot for column in columns])
