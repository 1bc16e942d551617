"""How many letters of a lot the products of a blend reach, and what these reaches let."""

from onecrest.basics import is_rising
from onecrest.checks import check_blend
from onecrest.errors import InvalidLot, TooMany

MOST_LACKING = 300


def reach(blend, lot):
    """The greatest number of letters of the lot in one product."""
    check_blend(blend)
    if not is_lot(blend, lot):
        raise InvalidLot(lot)
    return _reach_of(blend)[lot]


def reaches(blend):
    """The reaches of all lots of letters, by the lots."""
    check_blend(blend)
    found = _reach_of(blend)
    return {lot: found[lot] for lot in found if lot != ""}


def lacking(blend):
    """The sorted list of the counts that all reaches let, and that are no product."""
    check_blend(blend)
    found = _all_lacking(blend)
    if len(found) > MOST_LACKING:
        raise TooMany("products", MOST_LACKING)
    return found


def is_filled(blend):
    """Whether nothing is lacking."""
    check_blend(blend)
    return len(_all_lacking(blend)) == 0


def uneven(blend):
    """The first tuple (lot, letter, other) at which the reaches are uneven, None if there is none."""
    check_blend(blend)
    found = _reach_of(blend)
    for lot in found:
        further = [letter for letter in blend.letters if letter not in lot]
        for place, letter in enumerate(further):
            for other in further[place + 1:]:
                apart = found[_with(lot, letter)] + found[_with(lot, other)]
                if apart < found[_with(lot, letter + other)] + found[lot]:
                    return lot, letter, other
    return None


def is_lot(blend, value):
    """Whether any value is a lot of letters of the blend."""
    if not isinstance(value, str) or value == "":
        return False
    return is_rising(value) and all([letter in blend.letters for letter in value])


def _with(lot, letters):
    """The lot with further letters."""
    return "".join(sorted(lot + letters))


def _lots(letters):
    """All lots of the letters, the empty one too; each letter doubles them, those with it behind the others."""
    found = [""]
    for letter in letters:
        found = found + [lot + letter for lot in found]
    return found


def _sums(counts):
    """How many letters of each lot counts have, in the sequence of _lots."""
    found = [0]
    for count in counts:
        found = found + [part + count for part in found]
    return found


def _reach_list(blend):
    """The reach of each lot, in the sequence of _lots."""
    found = [0] * len(_lots(blend.letters))
    for counts, _ in blend.entries():
        found = [max(one, two) for one, two in zip(found, _sums(counts))]
    return found


def _reach_of(blend):
    """The reaches of all lots, the empty one too, by the lots, sorted."""
    told = {lot: most for lot, most in zip(_lots(blend.letters), _reach_list(blend))}
    return {lot: told[lot] for lot in sorted(told)}


def _all_lacking(blend):
    """As lacking, however many there are."""
    if blend.is_nought:
        return []
    most = _reach_list(blend)
    begun = [((), [0])]
    for _ in blend.letters:
        begun = [longer for counts, sums in begun for longer in _lengthened(counts, sums, most)]
    products = {counts: True for counts, _ in blend.entries()}
    return sorted([counts for counts, sums in begun if sums[-1] == blend.degree and counts not in products])


def _lengthened(counts, sums, most):
    """All counts with one letter more that go beyond no reach, each with its sums."""
    limits = most[len(sums):2 * len(sums)]
    found = []
    for count in range(most[-1] + 1):
        more = [part + count for part in sums]
        if any([part > limit for part, limit in zip(more, limits)]):
            return found
        found.append((counts + (count,), sums + more))
    return found
