"""Blends: sums of unlike products of letters, all of one degree."""

from onecrest.basics import is_counts, is_list, is_rising, is_small_letter
from onecrest.errors import InvalidBlend, InvalidCounts, InvalidEntries, InvalidLetters, InvalidNames
from onecrest.errors import InvalidNumber, TooMany, UnlikeBlends
from onecrest.ratios import Ratio, is_above, ratio_of

MOST_LETTERS = 8
MOST_DEGREE = 8
MOST_ENTRIES = 300


class Blend:
    """A sum of products with amounts above 0; it never changes."""

    def __init__(self, letters, entries=()):
        if not is_letters(letters):
            raise InvalidLetters(letters)
        if not is_list(entries):
            raise InvalidEntries(None)
        amounts = {}
        degree = None
        for position, entry in enumerate(entries):
            if not _is_entry(entry, len(letters), degree) or tuple(entry[0]) in amounts:
                raise InvalidEntries(position)
            amounts[tuple(entry[0])] = ratio_of(entry[1])
            degree = sum(entry[0])
        if len(amounts) > MOST_ENTRIES:
            raise TooMany("entries", MOST_ENTRIES)
        self._letters = letters
        self._degree = degree
        self._amounts = {counts: amounts[counts] for counts in sorted(amounts)}

    @property
    def letters(self):
        return self._letters

    @property
    def degree(self):
        return self._degree

    @property
    def is_nought(self):
        return self._degree is None

    def __len__(self):
        return len(self._amounts)

    def entries(self):
        """The sorted list of the tuples (counts, amount)."""
        return [(counts, self._amounts[counts]) for counts in self._amounts]

    def amount(self, counts):
        """The amount of the product with these counts, 0 without it."""
        if not is_counts(counts, len(self._letters)):
            raise InvalidCounts(counts)
        return self._amounts.get(tuple(counts), Ratio(0))

    def __add__(self, other):
        if not isinstance(other, Blend):
            raise InvalidBlend(other)
        alike = self.is_nought or other.is_nought or self.degree == other.degree
        if self.letters != other.letters or not alike:
            raise UnlikeBlends()
        return Blend(self.letters, gathered(self.entries() + other.entries()))

    def __mul__(self, other):
        if not isinstance(other, Blend):
            raise InvalidBlend(other)
        if self.letters != other.letters:
            raise UnlikeBlends()
        if self.is_nought or other.is_nought:
            return Blend(self.letters)
        if self.degree + other.degree > MOST_DEGREE:
            raise TooMany("degree", MOST_DEGREE)
        return Blend(self.letters, gathered(_all_products(self.entries(), other.entries())))

    def scaled(self, number):
        """The blend with all amounts multiplied by a NUMBER above 0."""
        if not is_above(number):
            raise InvalidNumber(number)
        return Blend(self._letters, [(counts, amount * number) for counts, amount in self.entries()])

    def __eq__(self, other):
        return isinstance(other, Blend) and self._letters == other._letters and self._amounts == other._amounts

    def __repr__(self):
        return f"Blend({self._letters!r}, {self.entries()!r})"

    def bears(self):
        """The letters that stand in some product."""
        standing = []
        for place, letter in enumerate(self._letters):
            if any([counts[place] > 0 for counts in self._amounts]):
                standing.append(letter)
        return "".join(standing)

    def called(self, names):
        """The blend with another name for each letter."""
        if not _is_names(self._letters, names):
            raise InvalidNames(names)
        old = {names[letter]: letter for letter in self._letters}
        letters = "".join(sorted(old))
        return _picked(self, letters, [self._letters.index(old[name]) for name in letters])

    def widened(self, letters):
        """The blend of more letters, which no product has."""
        if not is_letters(letters) or not all([letter in letters for letter in self._letters]):
            raise InvalidLetters(letters)
        places = [self._letters.index(letter) if letter in self._letters else None for letter in letters]
        return _picked(self, letters, places)

    def narrowed(self):
        """The blend of its standing letters alone, or of its first letter where none stands."""
        letters = self.bears() or self._letters[0]
        return _picked(self, letters, [self._letters.index(letter) for letter in letters])


def is_letters(value):
    """Whether any value is LETTERS."""
    if not isinstance(value, str) or not 1 <= len(value) <= MOST_LETTERS:
        return False
    return is_rising(value) and all([is_small_letter(letter) for letter in value])


def gathered(pairs):
    """The entries of pairs (counts, amount), the amounts of the same counts added."""
    amounts = {}
    for counts, amount in pairs:
        amounts[counts] = amounts[counts] + amount if counts in amounts else amount
    return [(counts, amounts[counts]) for counts in amounts]


def in_sequence(letters, entries):
    """The Blend of unlike letters in any sequence, in which the counts of the entries stand, too."""
    told = "".join(sorted(letters))
    places = [letters.index(letter) for letter in told]
    return Blend(told, [(tuple([counts[place] for place in places]), amount) for counts, amount in entries])


def _is_entry(entry, many, degree):
    """Whether any value is an entry of so many counts, of this degree where one is told."""
    if not isinstance(entry, tuple) or len(entry) != 2:
        return False
    counts, amount = entry
    if not is_counts(counts, many) or sum(counts) > MOST_DEGREE:
        return False
    return is_above(amount) and (degree is None or sum(counts) == degree)


def _all_products(entries, others):
    """The pair of each entry with each other one: counts added, amounts multiplied."""
    pairs = []
    for counts, amount in entries:
        for more, factor in others:
            both = tuple([one + two for one, two in zip(counts, more)])
            pairs.append((both, amount * factor))
    return pairs


def _is_names(letters, names):
    """Whether any value is a dict from just these letters to unlike small letters."""
    if not isinstance(names, dict) or len(names) != len(letters):
        return False
    if not all([letter in names and is_small_letter(names[letter]) for letter in letters]):
        return False
    return len({names[letter] for letter in letters}) == len(letters)


def _picked(blend, letters, places):
    """The blend of these letters, each as often as the letter at its place was; None has none."""
    entries = []
    for counts, amount in blend.entries():
        entries.append((tuple([0 if place is None else counts[place] for place in places]), amount))
    return Blend(letters, entries)
