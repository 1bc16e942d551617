"""Lot blends, whose products are lots of unlike letters, and the chances of their lots."""

from onecrest.basics import is_rising
from onecrest.blends import Blend
from onecrest.checks import check_blend, check_letter, check_weights
from onecrest.errors import InvalidLot, NotLots
from onecrest.ratios import Ratio
from onecrest.taken import taken, way_of


def lots(blend):
    """The sorted list of the lots of a lot blend."""
    check_blend(blend)
    check_lot_blend(blend)
    return sorted([way_of(blend.letters, counts) for counts, _ in blend.entries()])


def chance(blend, weights, lot):
    """The chance of a string of unlike letters, of all lots that have them together."""
    check_weighed(blend, weights)
    check_lot(blend, lot)
    return chance_of(products_chances(blend, weights), lot)


def products_chances(blend, weights):
    """The tuples (lot, chance) of all lots, sorted."""
    check_weighed(blend, weights)
    check_lot_blend(blend)
    worths = {}
    for counts, amount in blend.entries():
        for count, weight in zip(counts, weights):
            amount = amount * weight if count > 0 else amount
        worths[way_of(blend.letters, counts)] = amount
    whole = Ratio.total([worths[lot] for lot in worths])
    return [(lot, worths[lot].over(whole)) for lot in sorted(worths)]


def with_letter(blend, letter):
    """The blend of the lots that have a letter, without it."""
    check_blend(blend)
    check_letter(blend, letter)
    check_lot_blend(blend)
    return taken(blend, letter)


def without_letter(blend, letter):
    """The blend of the lots that do not have a letter."""
    check_blend(blend)
    check_letter(blend, letter)
    check_lot_blend(blend)
    place = blend.letters.index(letter)
    return Blend(blend.letters, [entry for entry in blend.entries() if entry[0][place] == 0])


def check_weighed(blend, weights):
    """A blend, and weights of it."""
    check_blend(blend)
    check_weights(weights, len(blend.letters))


def check_lot(blend, lot):
    """A string of unlike letters of the blend, rising, perhaps empty."""
    if not isinstance(lot, str) or not is_rising(lot) or not all([letter in blend.letters for letter in lot]):
        raise InvalidLot(lot)


def check_lot_blend(blend):
    """Not nought, of degree 1 at least, and no letter twice in a product."""
    if blend.is_nought or blend.degree == 0 or any([max(counts) > 1 for counts, _ in blend.entries()]):
        raise NotLots()


def chance_of(chances, letters):
    """The sum of the chances of the lots that have all of the letters."""
    return Ratio.total([share for lot, share in chances if has_all(lot, letters)])


def has_all(lot, letters):
    """Whether a lot has all of the letters."""
    return all([letter in lot for letter in letters])
