"""Letters parted into several and joined again; normal and abnormal amounts."""

from math import comb, factorial

from onecrest.basics import is_small_letter
from onecrest.blends import MOST_LETTERS, Blend, gathered, in_sequence, is_letters
from onecrest.checks import check_blend, check_letter
from onecrest.choices import all_lots
from onecrest.errors import InvalidLetter, InvalidLetters, InvalidLot
from onecrest.hulls import is_lot


def parted(blend, letter, letters):
    """The blend with each power of a letter as all products of so many of the letters, in equal shares."""
    check_blend(blend)
    check_letter(blend, letter)
    if not _is_parting(blend, letter, letters):
        raise InvalidLetters(letters)
    place, many = blend.letters.index(letter), len(letters)
    lots = all_lots(many)
    entries = []
    for counts, amount in blend.entries():
        others = counts[:place] + counts[place + 1:]
        share = amount.over(comb(many, counts[place]))
        entries.extend([(others + _once(lot, many), share) for lot in lots if len(lot) == counts[place]])
    return in_sequence(_but(blend.letters, letter) + letters, entries)


def joined(blend, lot, letter):
    """The blend with one letter in the place of all letters of a lot."""
    check_blend(blend)
    if not is_lot(blend, lot):
        raise InvalidLot(lot)
    others = _but(blend.letters, lot)
    if not is_small_letter(letter) or letter in others:
        raise InvalidLetter(letter)
    pairs = []
    for counts, amount in blend.entries():
        held = {name: count for name, count in zip(blend.letters, counts)}
        together = sum([held[name] for name in lot])
        pairs.append((tuple([held[name] for name in others] + [together]), amount))
    return in_sequence(others + letter, gathered(pairs))


def normal(blend):
    """The blend with each amount divided by the factorials of its counts."""
    check_blend(blend)
    return Blend(blend.letters, [(counts, amount.over(_factorials(counts))) for counts, amount in blend.entries()])


def abnormal(blend):
    """The blend with each amount multiplied by the factorials of its counts."""
    check_blend(blend)
    return Blend(blend.letters, [(counts, amount * _factorials(counts)) for counts, amount in blend.entries()])


def _is_parting(blend, letter, value):
    """Whether any value is letters into which a letter of the blend can be parted."""
    if not is_letters(value):
        return False
    others = _but(blend.letters, letter)
    if len(others) + len(value) > MOST_LETTERS or any([name in others for name in value]):
        return False
    place = blend.letters.index(letter)
    return all([counts[place] <= len(value) for counts, _ in blend.entries()])


def _but(letters, lot):
    """The letters but those of a lot."""
    return "".join([letter for letter in letters if letter not in lot])


def _once(lot, many):
    """The counts of so many letters that have those of a lot once."""
    return tuple([1 if place in lot else 0 for place in range(many)])


def _factorials(counts):
    """The product of the factorials of counts."""
    times = 1
    for count in counts:
        times = times * factorial(count)
    return times
