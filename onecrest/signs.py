"""How many squares of a table are above and below nought, and what shows that two are above."""

from math import gcd, lcm

from onecrest.checks import check_weights
from onecrest.errors import NotAbove
from onecrest.ratios import Ratio, is_numbers, nearest
from onecrest.squares import squares
from onecrest.tables import check_table, dotted, ratio_rows, value_at


def signs(table):
    """How many squares are above, how many below, and by how many the rank is less than the size."""
    numbers = [number for number, _ in squares(table)]
    above = len([number for number in numbers if number.sign > 0])
    return above, len(numbers) - above, len(table) - len(numbers)


def has_one(table):
    """Whether at most one square is above nought."""
    return signs(table)[0] <= 1


def is_never_below(table):
    """Whether no square is below nought."""
    return signs(table)[1] == 0


def two_above(table):
    """Two lists that show two above, None if there are none."""
    check_table(table)
    both = _both_above(table)
    if both is None:
        return None
    first = _shortened(table, both[0])
    return first, _level_at(table, first, both)


def is_two_above(table, value):
    """Whether any value is a tuple of two lists that show two above."""
    check_table(table)
    if not isinstance(value, tuple) or len(value) != 2:
        return False
    first, second = value
    if not is_numbers(first, len(table)) or not is_numbers(second, len(table)):
        return False
    if value_at(table, first, first).sign <= 0 or value_at(table, second, second).sign <= 0:
        return False
    return value_at(table, first, second).sign == 0


def one_below(table):
    """A list with a value below 0, None if there is none."""
    check_table(table)
    turned = [[-number for number in row] for row in ratio_rows(table)]
    found = _some_above(turned, 1)
    return _shortened(turned, found[0]) if found else None


def level(table, weights):
    """A direction that is level at the weights, None if there is none."""
    _check_above(table, weights)
    both = _both_above(table)
    if both is None:
        return None
    return _level_at(table, weights, both)


def is_level(table, weights, value):
    """Whether any value is a direction that is level at the weights."""
    _check_above(table, weights)
    if not is_numbers(value, len(table)):
        return False
    return value_at(table, weights, value).sign == 0 and value_at(table, value, value).sign > 0


def _check_above(table, weights):
    check_table(table)
    check_weights(weights, len(table))
    if value_at(table, weights, weights).sign <= 0:
        raise NotAbove()


def _both_above(table):
    """Two lists that show two above, however long their numbers are; None if there are none."""
    found = _some_above(table, 2)
    return found if len(found) == 2 else None


def _some_above(table, many):
    """As many lists, or as many as there are, with values above 0, and none with one another.

    The rows are those of lists, at first with 1 at one place each; behind its numbers in the table each row has the
    list itself. What is taken out by a row has no number with any row that is left.
    """
    rows = [row + unit for row, unit in zip(ratio_rows(table), _units(len(table)))]
    places = list(range(len(table)))
    found = []
    while len(found) < many:
        lead = _lead(rows, places)
        if lead is None:
            return found
        place, other = lead
        above = _above_list(rows, place, other)
        if above is not None:
            found.append(above)
        places = [left for left in places if left not in lead]
        for at in places:
            rows[at] = _freed(rows, at, place, other)
    return found


def _units(size):
    """For each place the list with 1 there and 0 elsewhere."""
    return [[Ratio(1 if at == place else 0) for at in range(size)] for place in range(size)]


def _lead(rows, places):
    """A place with a number on the middle line, twice; else two places with a number between them; else None."""
    for place in places:
        if rows[place][place].sign != 0:
            return place, place
    for place in places:
        for other in places:
            if rows[place][other].sign != 0:
                return place, other
    return None


def _above_list(rows, place, other):
    """The list of a row, or the sum or difference of two, with a value above 0; None if there is none."""
    size = len(rows)
    sign = rows[place][other].sign
    if place == other:
        return rows[place][size:] if sign > 0 else None
    return [one + two * sign for one, two in zip(rows[place][size:], rows[other][size:])]


def _freed(rows, at, place, other):
    """The row at a place less the multiples of the leading ones with which it has no number with them."""
    number = rows[place][other]
    freed = _less_multiple(rows[at], rows[at][other].over(number), rows[place])
    if place != other:
        freed = _less_multiple(freed, rows[at][place].over(number), rows[other])
    return freed


def _less_multiple(numbers, factor, others):
    return [number - factor * part for number, part in zip(numbers, others)]


def _level_at(table, at, both):
    """A list with a value above 0 that has none with the list at, itself with a value above 0.

    It is told by short numbers: the two lists tell one such list in their plane, a short one close to it still has
    a value above 0 when its share of the list at is taken off.
    """
    row = [dotted(numbers, at) for numbers in table]
    worth = dotted(row, at)
    one, two = [dotted(row, numbers) for numbers in both]
    exact = both[0]
    if one.sign != 0:
        exact = [number * two - part * one for number, part in zip(both[0], both[1])]
    rest = [[worth * number - row[i] * row[j] for j, number in enumerate(numbers)] for i, numbers in enumerate(table)]
    short = _shortened(rest, exact)
    share = dotted(row, short)
    return _plain([worth * part - share * number for part, number in zip(short, at)])


def _shortened(table, numbers):
    """INTEGERS, short ones, that are nearly a multiple of numbers with a value above 0, and have such a value, too."""
    scale = 1
    short = nearest(numbers, scale)
    while value_at(table, short, short).sign <= 0:
        scale = scale * 10
        short = nearest(numbers, scale)
    return short


def _plain(numbers):
    """The multiple of numbers, not all 0, that are INTEGERS without a common divisor, told as Ratios."""
    bottom = 1
    for number in numbers:
        bottom = lcm(bottom, number.bottom)
    tops = [number.top * (bottom // number.bottom) for number in numbers]
    shared = 0
    for top in tops:
        shared = gcd(shared, top)
    return [Ratio(top // shared) for top in tops]
