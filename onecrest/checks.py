"""What many functions ask of the parameters they share."""

from onecrest.basics import is_counts, is_list, is_small_letter
from onecrest.blends import Blend
from onecrest.errors import InvalidBlend, InvalidDirection, InvalidLetter, InvalidWeights
from onecrest.ratios import is_above, is_from_nought, is_numbers

MOST_IN_SQUARE = 5


def check_blend(blend):
    if not isinstance(blend, Blend):
        raise InvalidBlend(blend)


def check_weights(weights, many):
    """Weights are one NUMBER above 0 for each of so many letters."""
    if not is_numbers(weights, many) or not all([is_above(weight) for weight in weights]):
        raise InvalidWeights(weights)


def check_direction(direction, many):
    """A direction is one NUMBER for each of so many letters."""
    if not is_numbers(direction, many):
        raise InvalidDirection(direction)


def check_letter(blend, letter):
    if not is_letter_of(blend, letter):
        raise InvalidLetter(letter)


def check_two_letters(blend, letter, other):
    """Two unlike letters of the blend."""
    check_letter(blend, letter)
    if not is_letter_of(blend, other) or other == letter:
        raise InvalidLetter(other)


def is_letter_of(blend, value):
    """Whether any value is a letter of the blend."""
    return is_small_letter(value) and value in blend.letters


def is_product_of(blend, value):
    """Whether any value is the counts of a product of the blend."""
    return is_counts(value, len(blend.letters)) and blend.amount(value).sign > 0


def is_square_from_nought(value):
    """Whether any value is a list of 1 to 5 lists, each of as many NUMBERS from 0 on as there are lists."""
    if not is_list(value) or not 1 <= len(value) <= MOST_IN_SQUARE:
        return False
    return all([is_from_nought(row, len(value)) for row in value])
