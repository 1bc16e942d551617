"""Changes that keep crested blends crested: letters led, alike, exchanged, passed; along numbers, cut."""

from onecrest.basics import is_count
from onecrest.blends import Blend, gathered, is_letters
from onecrest.checks import check_blend, check_letter, check_two_letters
from onecrest.errors import HasSquares, InvalidLeads, InvalidLetters, InvalidMany, InvalidNumbers
from onecrest.errors import InvalidShare
from onecrest.ratios import Ratio, is_from_nought, is_share, ratio_of


def led(blend, letters, rows):
    """The blend with each letter as the sum of new letters, each so often as its list tells."""
    check_blend(blend)
    if not is_letters(letters):
        raise InvalidLetters(letters)
    if not _is_leads(rows, blend.letters, len(letters)):
        raise InvalidLeads(rows)
    forms = [_form(letters, rows[letter]) for letter in blend.letters]
    left = [entry for entry in blend.entries() if _stays(entry[0], forms)]
    return _multiplied_out(letters, left, forms)


def alike(blend, letter, other):
    """The blend with a letter in the place of another one, which is none of its letters any more."""
    _check_two(blend, letter, other)
    letters = blend.letters.replace(other, "")
    place, at = letters.index(letter), blend.letters.index(other)
    pairs = []
    for counts, amount in blend.entries():
        joined = list(counts[:at] + counts[at + 1:])
        joined[place] = joined[place] + counts[at]
        pairs.append((tuple(joined), amount))
    return Blend(letters, gathered(pairs))


def exchanged(blend, letter, other):
    """The blend with two letters each in the place of the other."""
    _check_two(blend, letter, other)
    return Blend(blend.letters, _turned(blend, letter, other))


def passed(blend, letter, other, share):
    """The blend and the one with two letters exchanged, added up by their shares."""
    _check_two(blend, letter, other)
    if not is_share(share):
        raise InvalidShare(share)
    if any([max(counts) > 1 for counts, _ in blend.entries()]):
        raise HasSquares()
    kept = _shared(blend.entries(), Ratio(1) - share)
    return Blend(blend.letters, gathered(kept + _shared(_turned(blend, letter, other), ratio_of(share))))


def along_numbers(blend, numbers):
    """The sum of what is left when each letter is taken out, times its number."""
    check_blend(blend)
    if not is_from_nought(numbers, len(blend.letters)):
        raise InvalidNumbers(numbers)
    pairs = []
    for counts, amount in blend.entries():
        for place, number in enumerate(numbers):
            factor = ratio_of(number) * counts[place]
            if factor.sign > 0:
                left = counts[:place] + (counts[place] - 1,) + counts[place + 1:]
                pairs.append((left, amount * factor))
    return Blend(blend.letters, gathered(pairs))


def cut(blend, letter, many):
    """The blend without the products that have a letter more often than so."""
    check_blend(blend)
    check_letter(blend, letter)
    if not is_count(many):
        raise InvalidMany(many)
    place = blend.letters.index(letter)
    return Blend(blend.letters, [entry for entry in blend.entries() if entry[0][place] <= many])


def _check_two(blend, letter, other):
    """Two unlike letters of the blend."""
    check_blend(blend)
    check_two_letters(blend, letter, other)


def _is_leads(value, letters, many):
    """Whether any value is a dict from just these letters to lists of so many NUMBERS from 0 on."""
    if not isinstance(value, dict) or len(value) != len(letters):
        return False
    return all([letter in value and is_from_nought(value[letter], many) for letter in letters])


def _form(letters, numbers):
    """The sum of the letters, each so often as the numbers tell."""
    entries = []
    for place, number in enumerate(numbers):
        if ratio_of(number).sign > 0:
            entries.append(([1 if at == place else 0 for at in range(len(letters))], number))
    return Blend(letters, entries)


def _stays(counts, forms):
    """Whether counts have no letter whose form is nought."""
    return all([count == 0 or not form.is_nought for count, form in zip(counts, forms)])


def _multiplied_out(letters, entries, forms):
    """The sum of the entries, each count being that of a form, the powers of the first form taken by turns.

    No products cancel, and no form that is met is nought: where a part has too many products, the whole has, too.
    """
    if len(forms) == 0:
        return Blend(letters, [([0] * len(letters), amount) for _, amount in entries])
    found = Blend(letters)
    for count in range(max([0] + [counts[0] for counts, _ in entries]), -1, -1):
        rest = [(counts[1:], amount) for counts, amount in entries if counts[0] == count]
        found = found * forms[0] + _multiplied_out(letters, rest, forms[1:])
    return found


def _turned(blend, letter, other):
    """The entries with two letters exchanged."""
    place, at = blend.letters.index(letter), blend.letters.index(other)
    entries = []
    for counts, amount in blend.entries():
        changed = list(counts)
        changed[place], changed[at] = counts[at], counts[place]
        entries.append((tuple(changed), amount))
    return entries


def _shared(entries, share):
    """The entries times a share, none for the share 0."""
    return [(counts, amount * share) for counts, amount in entries if share.sign > 0]
