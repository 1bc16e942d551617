"""Operators on blends whose counts are within bounds, and their symbols."""

from math import comb

from onecrest.basics import is_counts
from onecrest.blends import MOST_DEGREE, Blend, gathered, in_sequence, is_letters
from onecrest.changes import along_numbers, cut, passed
from onecrest.checks import check_blend
from onecrest.errors import BeyondBounds, InvalidBounds, InvalidLetters, InvalidOperator, TooMany, UnlikeBlends
from onecrest.judge import is_crested

ALPHABET = "abcdefghijklmnopqrstuvwxyz"
MOST_BOUNDED = 3
MOST_BOUND = 2


def is_operator(letters, bounds, value):
    """Whether any value is an operator of the letters up to the bounds."""
    _check_letters(letters)
    if not _is_bounds(bounds, len(letters)):
        raise InvalidBounds(bounds)
    if not isinstance(value, dict) or len(value) != len(_all_counts(bounds)):
        return False
    if not all([_is_told(letters, bounds, counts, value[counts]) for counts in value]):
        return False
    steps = [value[counts].degree - sum(counts) for counts in value if not value[counts].is_nought]
    return all([step == steps[0] for step in steps])


def second_letters(letters):
    """As many letters, the first ones of the alphabet that are not among these."""
    _check_letters(letters)
    return "".join([letter for letter in ALPHABET if letter not in letters][:len(letters)])


def symbol(letters, bounds, operator):
    """The symbol of the operator, a blend of the letters and the second letters."""
    _check_operator(letters, bounds, operator)
    pairs = []
    for counts in _all_counts(bounds):
        lacks = tuple([bound - count for bound, count in zip(bounds, counts)])
        times = _choices(bounds, counts)
        pairs.extend([(more + lacks, amount * times) for more, amount in operator[counts].entries()])
    if any([sum(counts) > MOST_DEGREE for counts, _ in pairs]):
        raise TooMany("degree", MOST_DEGREE)
    return in_sequence(letters + second_letters(letters), pairs)


def applied(letters, bounds, operator, blend):
    """The sum of the operator's blends of all products of a blend, each times its amount."""
    _check_operator(letters, bounds, operator)
    check_blend(blend)
    if blend.letters != letters:
        raise UnlikeBlends()
    if not all([_is_within(counts, bounds) for counts, _ in blend.entries()]):
        raise BeyondBounds()
    pairs = []
    for counts, amount in blend.entries():
        pairs.extend([(more, factor * amount) for more, factor in operator[counts].entries()])
    return Blend(letters, gathered(pairs))


def surely_keeps(letters, bounds, operator):
    """Whether the symbol is crested, so that the operator keeps crested blends crested."""
    return is_crested(symbol(letters, bounds, operator))


def along_operator(letters, bounds, numbers):
    """The operator of a change along numbers."""
    singles = _singles(letters, bounds)
    return {counts: along_numbers(singles[counts], numbers) for counts in singles}


def cut_operator(letters, bounds, letter, many):
    """The operator of cutting a letter."""
    singles = _singles(letters, bounds)
    return {counts: cut(singles[counts], letter, many) for counts in singles}


def passed_operator(letters, letter, other, share):
    """The operator of passing a letter for another one, up to bounds that are all 1."""
    _check_letters(letters)
    singles = _singles(letters, [1] * len(letters))
    return {counts: passed(singles[counts], letter, other, share) for counts in singles}


def _check_letters(letters):
    if not is_letters(letters) or len(letters) > MOST_BOUNDED:
        raise InvalidLetters(letters)


def _check_operator(letters, bounds, operator):
    if not is_operator(letters, bounds, operator):
        raise InvalidOperator(operator)


def _is_bounds(value, many):
    """Whether any value is bounds of so many letters."""
    return is_counts(value, many) and all([bound <= MOST_BOUND for bound in value])


def _is_within(counts, bounds):
    """Whether counts have no letter more often than its bound."""
    return all([count <= bound for count, bound in zip(counts, bounds)])


def _is_told(letters, bounds, counts, value):
    """Whether any key is a tuple of counts within the bounds, and what it has a blend of the letters."""
    # a list is never a key, so that counts are a tuple here
    if not is_counts(counts, len(letters)) or not _is_within(counts, bounds):
        return False
    return isinstance(value, Blend) and value.letters == letters


def _all_counts(bounds):
    """All tuples of counts within the bounds, sorted."""
    found = [()]
    for bound in bounds:
        found = [counts + (count,) for counts in found for count in range(bound + 1)]
    return found


def _choices(bounds, counts):
    """In how many ways the counts can be chosen out of the bounds."""
    times = 1
    for bound, count in zip(bounds, counts):
        times = times * comb(bound, count)
    return times


def _singles(letters, bounds):
    """For all counts within the bounds the blend of their product alone."""
    _check_letters(letters)
    if not _is_bounds(bounds, len(letters)):
        raise InvalidBounds(bounds)
    return {counts: Blend(letters, [(counts, 1)]) for counts in _all_counts(bounds)}
