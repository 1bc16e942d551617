"""The commands of a desk, by their words alone."""

from onecrest.basics import is_rising, is_small_letter
from onecrest.blends import is_letters
from onecrest.wording import DIGITS, count_in, number_in, way_in

MOST_SIGNS = 8
BEYOND_SIX_DIGITS = 1000000
CLAIM_WORDS = ("crested", "dented", "whole", "apart", "exchanges", "stuck", "one", "more", "sound", "sunk", "even",
               "dips")
# what stands behind the word of a command; "new" is a name, "free" a label that is not taken yet
DEEDS = {
    "blend": ("new", "letters"), "put": ("name", "product", "amount"), "take": ("name", "product"),
    "scale": ("name", "amount"), "copy": ("new", "name"), "left": ("new", "name", "way"),
    "sum": ("new", "name", "name"), "times": ("new", "name", "name"), "alike": ("new", "name", "letter", "letter"),
    "cut": ("new", "name", "letter", "many"), "drop": ("name",), "weigh": ("letter", "amount"),
    "pace": ("letter", "number"), "go": ("number",), "claim": ("free", "word", "name", "way"), "forget": ("label",)}
QUESTIONS = {
    "undo": (), "redo": (), "state": ("label",), "states": (), "claimed": ("label",), "names": (), "letters": ("name",),
    "products": ("name",), "weights": ("name",), "paces": ("name",), "worth": ("name",), "slope": ("name",),
    "bend": ("name",), "lean": ("name",), "swells": ("name",), "crested": ("name",), "fault": ("name",),
    "parts": ("name",), "pieces": ("name",), "signs": ("name",), "misfit": ("name",), "reach": ("name", "lot"),
    "chance": ("name", "lot")}


def is_name(value):
    """Whether any value is a name: one to eight small letters and digits, a letter first."""
    if not isinstance(value, str) or not 1 <= len(value) <= MOST_SIGNS or not is_small_letter(value[0]):
        return False
    return all([is_small_letter(sign) or sign in DIGITS for sign in value])


def is_command(value):
    """Whether any value is a command by its words alone."""
    return parts_of(value) is not None


def is_deed(value):
    """Whether any value is a command that is a deed."""
    return is_command(value) and value.split(" ")[0] in DEEDS


def parts_of(value):
    """The word of a command, and what stands behind it, a list; None for any value that is no command."""
    if not isinstance(value, str):
        return None
    told = value.split(" ")
    kinds = kinds_of(told[0])
    if kinds is None or len(told) != len(kinds) + 1:
        return None
    parts = [_part(kind, word) for kind, word in zip(kinds, told[1:])]
    return None if any([part is None for part in parts]) else told[:1] + parts


def kinds_of(word):
    """The kinds of what stands behind the word of a command, None if it is no such word."""
    return DEEDS[word] if word in DEEDS else QUESTIONS.get(word)


def _part(kind, word):
    """What a word of a command tells, None if it is not of this kind."""
    if kind == "letters":
        return word if is_letters(word) else None
    if kind == "letter":
        return word if is_small_letter(word) else None
    if kind == "word":
        return word if word in CLAIM_WORDS else None
    if kind == "many":
        many = count_in(word)
        return many if many is not None and many < BEYOND_SIX_DIGITS else None
    if kind in ("number", "amount"):
        return _number(kind, word)
    if kind in ("product", "way", "lot"):
        way = way_in(word)
        return way if kind != "lot" or way is None or is_rising(way) else None
    return word if is_name(word) else None


def _number(kind, word):
    """The Ratio of at most six digits above and below, an amount above 0; None if there is none."""
    number = number_in(word)
    if number is None or abs(number.top) >= BEYOND_SIX_DIGITS or number.bottom >= BEYOND_SIX_DIGITS:
        return None
    return number if kind == "number" or number.sign > 0 else None
