"""How COUNTS, NUMBERS and ways stand in texts and commands, and what such words tell."""

from math import gcd

from onecrest.basics import is_small_letter
from onecrest.ratios import Ratio

DIGITS = "0123456789"
MOST_IN_WAY = 8
NO_LETTERS = "-"


def is_any_way(value):
    """Whether any value is a way of some blend: small letters in alphabetical sequence, 8 at most."""
    if not isinstance(value, str) or len(value) > MOST_IN_WAY:
        return False
    return all([is_small_letter(letter) for letter in value]) and list(value) == sorted(value)


def way_text(way):
    """The word for a way, or for another string of letters that may be empty."""
    return way or NO_LETTERS


def way_in(word):
    """The way that a word tells, None if it tells none."""
    if word == NO_LETTERS:
        return ""
    return word if word != "" and is_any_way(word) else None


def count_in(word):
    """The COUNT that a word tells, without needless zeros; None if it tells none."""
    if word == "" or not all([sign in DIGITS for sign in word]) or word[0] == "0" and len(word) > 1:
        return None
    return int(word)


def counts_in(words):
    """The COUNTS that words tell, None if one tells none."""
    counts = [count_in(word) for word in words]
    return None if None in counts else counts


def number_in(word):
    """The Ratio that a word tells, in lowest terms; None if it tells none."""
    top, stroke, bottom = word.partition("/")
    above = _integer_in(top)
    if above is None or stroke == "":
        return None if above is None else Ratio(above)
    below = count_in(bottom)
    if below is None or below < 2 or gcd(above, below) > 1:
        return None
    return Ratio(above, below)


def numbers_in(words):
    """The Ratios that words tell, None if one tells none."""
    numbers = [number_in(word) for word in words]
    return None if any([number is None for number in numbers]) else numbers


def _integer_in(word):
    """The INTEGER that a word tells, None if it tells none; `-0` is none."""
    if not word.startswith("-"):
        return count_in(word)
    size = count_in(word[1:])
    return None if size is None or size == 0 else -size
