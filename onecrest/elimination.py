"""Rank and determinant of rows of Ratios, reckoned in INTEGERS without fractions."""

from math import lcm

from onecrest.ratios import Ratio


def rank_of(rows):
    """The greatest number of these rows of which none is made of the others."""
    return _reduced(_whole_rows(rows))[0]


def determinant(rows):
    """The determinant of as many rows as each has numbers."""
    rank, last = _reduced(_whole_rows(rows))
    if rank < len(rows):
        return Ratio(0)
    bottom = 1
    for row in rows:
        bottom = bottom * _shared_bottom(row)
    return Ratio(last, bottom)


def _shared_bottom(row):
    """The least bottom that all numbers of the row can have."""
    shared = 1
    for number in row:
        shared = lcm(shared, number.bottom)
    return shared


def _whole_rows(rows):
    """The rows as INTEGERS, each multiplied by its shared bottom."""
    found = []
    for row in rows:
        shared = _shared_bottom(row)
        found.append([number.top * (shared // number.bottom) for number in row])
    return found


def _reduced(rows):
    """The rank of rows of INTEGERS, and the last leading number, with the sign of the exchanges.

    Each number is a determinant of the first rows, so that dividing by the leading number ahead leaves nothing
    over (Bareiss).
    """
    left = [list(row) for row in rows]
    rank, last, sign = 0, 1, 1
    for column in range(len(left[0]) if left else 0):
        lead = _lead(left, rank, column)
        if lead is not None:
            if lead != rank:
                left[rank], left[lead] = left[lead], left[rank]
                sign = -sign
            left = _cleared(left, rank, column, last)
            last = left[rank][column]
            rank += 1
    return rank, sign * last


def _lead(rows, start, column):
    """The first row from a start on that has a number in the column, None if there is none."""
    for place in range(start, len(rows)):
        if rows[place][column] != 0:
            return place
    return None


def _cleared(rows, lead, column, last):
    """The rows with noughts in the column behind the leading row."""
    head = rows[lead]
    found = rows[:lead + 1]
    for row in rows[lead + 1:]:
        found.append([(number * head[column] - row[column] * above) // last for number, above in zip(row, head)])
    return found
