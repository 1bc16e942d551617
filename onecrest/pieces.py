"""Pieces of a blend, the trees of a whole one, and the ways that leave it apart."""

from onecrest.basics import is_list
from onecrest.blends import Blend
from onecrest.checks import check_blend, is_letter_of, is_product_of
from onecrest.taken import all_ways, taken


def pieces(blend):
    """The sorted list of the lots of standing letters that hang together."""
    check_blend(blend)
    lots = list(blend.bears())
    for counts, _ in blend.entries():
        if len(lots) > 1:
            lots = _tied(lots, _letters_of(blend, counts))
    return sorted(lots)


def is_whole(blend):
    """Whether the blend has at most one piece."""
    return len(pieces(blend)) <= 1


def halves(blend):
    """The products of the first piece and all others, two blends; None if the blend is whole."""
    lots = pieces(blend)
    if len(lots) <= 1:
        return None
    first, others = [], []
    for entry in blend.entries():
        if _letters_of(blend, entry[0])[0] in lots[0]:
            first.append(entry)
        else:
            others.append(entry)
    return Blend(blend.letters, first), Blend(blend.letters, others)


def whole_tree(blend):
    """A tree of the blend, a list of ties (letter, other, counts); None if it is not whole."""
    if not is_whole(blend):
        return None
    ties = []
    lots = list(blend.bears())
    for counts, _ in blend.entries():
        letters = _letters_of(blend, counts)
        for letter in letters[1:]:
            joined = _tied(lots, letters[0] + letter)
            if len(joined) < len(lots):
                ties.append((letters[0], letter, counts))
            lots = joined
    return ties


def is_whole_tree(blend, value):
    """Whether any value is a tree of the blend."""
    check_blend(blend)
    lots = list(blend.bears())
    if not is_list(value) or len(value) != max(len(lots) - 1, 0):
        return False
    if not all([_is_tie(blend, tie) for tie in value]):
        return False
    for letter, other, _ in value:
        lots = _tied(lots, letter + other)
    return len(lots) <= 1


def apart_way(blend):
    """The first way that leaves the blend apart, the shortest ones first; None if none does."""
    for way in all_ways(blend):
        if not is_whole(taken(blend, way)):
            return way
    return None


def _letters_of(blend, counts):
    """The letters that counts have, a string, rising."""
    return "".join([letter for letter, count in zip(blend.letters, counts) if count > 0])


def _tied(lots, letters):
    """The lots, those that have some of the letters made one."""
    met = [lot for lot in lots if any([letter in lot for letter in letters])]
    if len(met) <= 1:
        return lots
    return [lot for lot in lots if lot not in met] + ["".join(sorted("".join(met)))]


def _is_tie(blend, value):
    """Whether any value is a tie of the blend."""
    if not isinstance(value, tuple) or len(value) != 3:
        return False
    letter, other, counts = value
    if not is_letter_of(blend, letter) or not is_letter_of(blend, other) or letter == other:
        return False
    if not is_product_of(blend, counts):
        return False
    held = _letters_of(blend, counts)
    return letter in held and other in held
