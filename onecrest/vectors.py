"""Rows of numbers, the vectors of things: which of them are made of which, and which are free."""

from onecrest.basics import is_list, is_rising_counts
from onecrest.choices import all_lots
from onecrest.elimination import rank_of
from onecrest.errors import InvalidThings, InvalidVectors
from onecrest.ratios import is_numbers
from onecrest.tables import ratio_rows

MOST_THINGS = 7
MOST_NUMBERS = 5


def rank(vectors):
    """The greatest number of free things."""
    _check_vectors(vectors)
    return rank_of(ratio_rows(vectors))


def is_free(vectors, things):
    """Whether none of the things is made of the others."""
    _check_things(vectors, things)
    return _is_free(ratio_rows(vectors), things)


def span_of(vectors, things):
    """The rising list of all things that are made of these."""
    _check_things(vectors, things)
    rows = ratio_rows(vectors)
    held = [rows[thing] for thing in things]
    most = rank_of(held)
    return [thing for thing, row in enumerate(rows) if rank_of(held + [row]) == most]


def free_lots(vectors):
    """All free lots, by length, then sorted."""
    _check_vectors(vectors)
    rows = ratio_rows(vectors)
    return [lot for lot in all_lots(len(rows)) if _is_free(rows, lot)]


def _check_vectors(vectors):
    if not _is_vectors(vectors):
        raise InvalidVectors(vectors)


def _check_things(vectors, things):
    _check_vectors(vectors)
    if not is_rising_counts(things, len(vectors)):
        raise InvalidThings(things)


def _is_vectors(value):
    """Whether any value is vectors."""
    if not is_list(value) or not 1 <= len(value) <= MOST_THINGS or not is_list(value[0]):
        return False
    length = len(value[0])
    return length <= MOST_NUMBERS and all([is_numbers(row, length) for row in value])


def _is_free(rows, things):
    return rank_of([rows[thing] for thing in things]) == len(things)
