"""Exchange of letters between the products of a blend."""

from onecrest.checks import check_blend, is_letter_of, is_product_of
from onecrest.errors import InvalidCounts, InvalidLetter, TooMany

MOST_MATES = 1000


def mate(blend, counts, other, letter):
    """The first mate of two products and a letter, None if there is none."""
    check_blend(blend)
    for value in (counts, other):
        if not is_product_of(blend, value):
            raise InvalidCounts(value)
    if not _is_oftener(blend, counts, other, letter):
        raise InvalidLetter(letter)
    return _first_mate(blend.letters, _products(blend), (tuple(counts), tuple(other), letter))


def exchanges(blend):
    """Whether there is a mate for each two products and each letter that the one has oftener."""
    return misfit(blend) is None


def misfit(blend):
    """The first tuple (counts, other, letter) without a mate, None if there is none."""
    check_blend(blend)
    products = _products(blend)
    for asked in _all_asked(blend):
        if _first_mate(blend.letters, products, asked) is None:
            return asked
    return None


def is_misfit(blend, value):
    """Whether any value is a misfit of the blend."""
    check_blend(blend)
    if not _is_asked(blend, value):
        return False
    counts, other, letter = value
    return _first_mate(blend.letters, _products(blend), (tuple(counts), tuple(other), letter)) is None


def mates(blend):
    """A mate for each tuple (counts, other, letter); None if one lacks."""
    check_blend(blend)
    products = _products(blend)
    found = {}
    for asked in _all_asked(blend):
        told = _first_mate(blend.letters, products, asked)
        if told is None:
            return None
        # whether a mate lacks comes ahead of how many there are: all are looked for, but no more are kept
        if len(found) <= MOST_MATES:
            found[asked] = told
    if len(found) > MOST_MATES:
        raise TooMany("mates", MOST_MATES)
    return found


def is_mates(blend, value):
    """Whether any value is mates of the blend."""
    check_blend(blend)
    if not isinstance(value, dict) or not all([_is_asked(blend, key) for key in value]):
        return False
    # the keys are unlike, and each is one that is asked for: if they are as many, they are all
    if len(value) != len(_all_asked(blend)):
        return False
    products = _products(blend)
    return all([_is_mate(blend, products, key, value[key]) for key in value])


def _products(blend):
    """The counts of all products as a dict, to be looked up."""
    return {counts: True for counts, _ in blend.entries()}


def _all_asked(blend):
    """All tuples (counts, other, letter) for which a mate is asked, sorted."""
    products = [counts for counts, _ in blend.entries()]
    found = []
    for counts in products:
        for other in products:
            for letter, one, two in zip(blend.letters, counts, other):
                if one > two:
                    found.append((counts, other, letter))
    return found


def _is_asked(blend, value):
    """Whether any value is a tuple (counts, other, letter) for which a mate is asked."""
    if not isinstance(value, tuple) or len(value) != 3:
        return False
    counts, other, letter = value
    if not is_product_of(blend, counts) or not is_product_of(blend, other):
        return False
    return _is_oftener(blend, counts, other, letter)


def _is_oftener(blend, counts, other, letter):
    """Whether any value is a letter that the one product has oftener than the other one."""
    if not is_letter_of(blend, letter):
        return False
    place = blend.letters.index(letter)
    return counts[place] > other[place]


def _first_mate(letters, products, asked):
    """The first mate by the alphabet, None if there is none."""
    counts, other, letter = asked
    place = letters.index(letter)
    for at, name in enumerate(letters):
        if counts[at] < other[at] and _both_stay(products, counts, other, place, at):
            return name
    return None


def _is_mate(blend, products, asked, value):
    """Whether any value is a mate of what is asked."""
    counts, other, letter = asked
    if not is_letter_of(blend, value):
        return False
    place, at = blend.letters.index(letter), blend.letters.index(value)
    return counts[at] < other[at] and _both_stay(products, counts, other, place, at)


def _both_stay(products, counts, other, place, at):
    """Whether both are products again when they exchange the letters at these places."""
    return _traded(counts, place, at) in products and _traded(other, at, place) in products


def _traded(counts, less, more):
    """Counts with one letter less at the one place and one more at the other."""
    changed = list(counts)
    changed[less] -= 1
    changed[more] += 1
    return tuple(changed)
