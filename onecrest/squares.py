"""Tables as sums of squares of forms, times numbers."""

from onecrest.basics import is_list
from onecrest.elimination import rank_of
from onecrest.ratios import Ratio, is_number, is_numbers, ratio_of
from onecrest.tables import check_table, ratio_rows


def squares(table):
    """Squares of the table, a list of tuples (number, form)."""
    check_table(table)
    left = ratio_rows(table)
    found = []
    for _ in table:
        told = _next_squares(left)
        left = _less(left, told)
        found.extend(told)
    return found


def is_squares(table, value):
    """Whether any value is squares of the table."""
    check_table(table)
    if not is_list(value) or len(value) > len(table):
        return False
    if not all([_is_square(square, len(table)) for square in value]):
        return False
    if rank_of(ratio_rows([form for _, form in value])) < len(value):
        return False
    left = _less(ratio_rows(table), value)
    return all([number.sign == 0 for row in left for number in row])


def has_one_above(found):
    """Whether at most one of some squares is above nought."""
    return len([number for number, _ in found if ratio_of(number).sign > 0]) <= 1


def are_never_below(found):
    """Whether none of some squares is below nought."""
    return all([ratio_of(number).sign >= 0 for number, _ in found])


def _is_square(value, size):
    """Whether any value is a NUMBER that is not 0, and a form of as many NUMBERS."""
    if not isinstance(value, tuple) or len(value) != 2:
        return False
    number, form = value
    return is_number(number) and ratio_of(number).sign != 0 and is_numbers(form, size)


def _next_squares(left):
    """The squares by which the next letter, or the next two, are taken out; none of noughts."""
    for place, row in enumerate(left):
        if row[place].sign != 0:
            return [(Ratio(1).over(row[place]), list(row))]
    for row in left:
        for place, number in enumerate(row):
            if number.sign != 0:
                return _two_squares(number, row, left[place])
    return []


def _two_squares(number, row, other):
    """A sum and a difference of two rows, between whose letters the number stands."""
    half = Ratio(1, 2).over(number)
    added = [one + two for one, two in zip(row, other)]
    parted = [one - two for one, two in zip(row, other)]
    return [(half, added), (-half, parted)]


def _less(rows, taken_out):
    """The table without the squares; it stays alike about its middle line, so that half of it is reckoned."""
    left = [list(row) for row in rows]
    for number, form in taken_out:
        for place, part in enumerate(form):
            factor = ratio_of(part) * number
            if factor.sign != 0:
                left[place] = _less_multiple(left[place], factor, form[:place + 1])
    size = len(left)
    return [[left[max(row, column)][min(row, column)] for column in range(size)] for row in range(size)]


def _less_multiple(row, factor, numbers):
    """A row less a multiple of some numbers, as far as these go."""
    changed = [number - factor * part for number, part in zip(row, numbers)]
    return changed + row[len(numbers):]
