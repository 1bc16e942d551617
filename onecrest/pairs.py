"""Two letters of a lot blend together: whether they help one another, pair tables and their papers."""

from onecrest.chances import chance_of, check_weighed, products_chances
from onecrest.checks import check_two_letters
from onecrest.ratios import Ratio
from onecrest.squares import are_never_below, is_squares, squares


def together(blend, weights, letter, other):
    """The chance of both letters."""
    _check_pair(blend, weights, letter, other)
    return chance_of(products_chances(blend, weights), letter + other)


def pair_slack(blend, weights, letter, other):
    """2 (1 - 1/d) times the product of both single chances, less the chance of both."""
    both = together(blend, weights, letter, other)
    return _single_product(blend, weights, letter, other) * Ratio(2 * blend.degree - 2, blend.degree) - both


def helps(blend, weights, letter, other):
    """Whether both come together more often than both alone would let."""
    both = together(blend, weights, letter, other)
    return _single_product(blend, weights, letter, other).is_below(both)


def pair_table(blend, weights):
    """(1 - 1/d) times the products of single chances, less the chances of both, by the letters."""
    chances = products_chances(blend, weights)
    singles = [chance_of(chances, letter) for letter in blend.letters]
    factor = Ratio(blend.degree - 1, blend.degree)
    table = [[one * two * factor for two in singles] for one in singles]
    for row, letter in enumerate(blend.letters):
        for column, other in enumerate(blend.letters):
            if row != column:
                table[row][column] = table[row][column] - chance_of(chances, letter + other)
    return table


def pair_paper(blend, weights):
    """Squares of the pair table, none of them below 0; None if one is."""
    found = squares(pair_table(blend, weights))
    return found if are_never_below(found) else None


def is_pair_paper(blend, weights, value):
    """Whether any value is squares of the pair table, none of them below 0."""
    return is_squares(pair_table(blend, weights), value) and are_never_below(value)


def _check_pair(blend, weights, letter, other):
    """Weights, and two unlike letters, of a blend."""
    check_weighed(blend, weights)
    check_two_letters(blend, letter, other)


def _single_product(blend, weights, letter, other):
    """The product of both single chances."""
    chances = products_chances(blend, weights)
    return chance_of(chances, letter) * chance_of(chances, other)
