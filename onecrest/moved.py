"""One amount of a blend moved, and where the blend is crested then."""

from onecrest.basics import is_count, is_counts, is_list
from onecrest.blends import MOST_DEGREE, Blend
from onecrest.checks import check_blend, is_product_of
from onecrest.errors import InvalidCounts, InvalidMany, InvalidNumber, InvalidNumbers, InvalidSpan, NoEdge
from onecrest.judge import is_crested
from onecrest.ratios import Ratio, is_above, ratio_of
from onecrest.taken import all_ways

MOST_NUMBERS = 20
MOST_NARROWED = 20


def with_amount(blend, counts, number):
    """The blend with the amount of one product moved to a number above 0."""
    _check_moved(blend, counts)
    _check_above(number)
    return _moved(blend, counts, number)


def without(blend, counts):
    """The blend without one of its products."""
    check_blend(blend)
    if not is_product_of(blend, counts):
        raise InvalidCounts(counts)
    return Blend(blend.letters, _others(blend, counts))


def crested_at(blend, counts, numbers):
    """Whether the blend is crested with the amount moved to each of the numbers."""
    _check_moved(blend, counts)
    if not is_list(numbers) or len(numbers) > MOST_NUMBERS or not all([is_above(number) for number in numbers]):
        raise InvalidNumbers(numbers)
    _check_ways(blend, counts)
    return [_is_crested_at(blend, counts, number) for number in numbers]


def narrowed(blend, counts, low, high, many):
    """The tuple of two numbers with an edge between them, narrowed so many times."""
    _check_moved(blend, counts)
    _check_above(low)
    _check_above(high)
    if not is_count(many) or many > MOST_NARROWED:
        raise InvalidMany(many)
    lower, upper = ratio_of(low), ratio_of(high)
    if not lower.is_below(upper):
        raise InvalidSpan(low, high)
    at_low = _is_crested_at(blend, counts, lower)
    if at_low == _is_crested_at(blend, counts, upper):
        raise NoEdge()
    for _ in range(many):
        middle = (lower + upper) * Ratio(1, 2)
        if _is_crested_at(blend, counts, middle) == at_low:
            lower = middle
        else:
            upper = middle
    return lower, upper


def _check_moved(blend, counts):
    """Counts of a product that the blend may have: of its degree, of any degree where it is nought."""
    check_blend(blend)
    if not is_counts(counts, len(blend.letters)):
        raise InvalidCounts(counts)
    degree = sum(counts)
    if degree > MOST_DEGREE or not blend.is_nought and degree != blend.degree:
        raise InvalidCounts(counts)


def _check_above(number):
    if not is_above(number):
        raise InvalidNumber(number)


def _check_ways(blend, counts):
    """Raises what the blend with the product raises, for any amount: these are the same ways for all of them."""
    all_ways(_moved(blend, counts, 1))


def _others(blend, counts):
    """All entries but that of one product."""
    return [entry for entry in blend.entries() if entry[0] != tuple(counts)]


def _moved(blend, counts, number):
    return Blend(blend.letters, _others(blend, counts) + [(counts, number)])


def _is_crested_at(blend, counts, number):
    return is_crested(_moved(blend, counts, number))
