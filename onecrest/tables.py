"""Tables of numbers that are alike about their middle line, and the forms they stand for."""

from onecrest.basics import is_list, is_rising_counts
from onecrest.checks import check_direction
from onecrest.elimination import determinant, rank_of
from onecrest.errors import InvalidPlaces, InvalidRows, InvalidTable
from onecrest.ratios import Ratio, is_numbers, ratios_of

MOST_ROWS = 20


def is_table(value):
    """Whether any value is a table."""
    if not is_list(value) or not 1 <= len(value) <= MOST_ROWS:
        return False
    if not all([is_numbers(row, len(value)) for row in value]):
        return False
    rows = ratio_rows(value)
    return all([rows[i][j] == rows[j][i] for i in range(len(rows)) for j in range(i)])


def check_table(table):
    if not is_table(table):
        raise InvalidTable(table)


def ratio_rows(rows):
    """Lists of NUMBERS as new lists of Ratios."""
    return [ratios_of(row) for row in rows]


def value_at(table, first, second):
    """first A second: the sum of all numbers of the table, times those of both lists."""
    check_table(table)
    check_direction(first, len(table))
    check_direction(second, len(table))
    return dotted(first, [dotted(row, second) for row in table])


def minor(table, places):
    """The determinant of the numbers in these rows and columns."""
    check_table(table)
    if not is_rising_counts(places, len(table)) or len(places) == 0:
        raise InvalidPlaces(places)
    return determinant(ratio_rows([[table[i][j] for j in places] for i in places]))


def rank(table):
    """The greatest number of rows of which none is made of the others."""
    check_table(table)
    return rank_of(ratio_rows(table))


def changed(table, rows):
    """The table of the new letters, each old letter being what its row makes of these."""
    check_table(table)
    if not _is_leading(rows, len(table)):
        raise InvalidRows(rows)
    columns = [[row[place] for row in rows] for place in range(len(rows[0]))]
    multiplied = [[dotted(row, column) for row in table] for column in columns]
    return [[dotted(column, numbers) for numbers in multiplied] for column in columns]


def dotted(numbers, others):
    """The sum of the products of numbers at the same places."""
    return Ratio.total([one * two for one, two in zip(numbers, others)])


def _is_leading(value, many):
    """Whether any value is a list of so many lists of NUMBERS, all alike long."""
    if not is_list(value) or len(value) != many or not is_list(value[0]):
        return False
    length = len(value[0])
    return 1 <= length <= MOST_ROWS and all([is_numbers(row, length) for row in value])
