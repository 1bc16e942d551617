"""Claims about blends, tables and rows of numbers, each with a contrary, and the papers that show them."""

from onecrest.basics import fresh, is_count, is_list, is_rising
from onecrest.errors import CrestError, InvalidClaim, LimitError
from onecrest.exchange import is_mates, is_misfit, mates, misfit
from onecrest.judge import crest_paper, dent, is_crest_paper, is_crested, is_dent
from onecrest.moved import with_amount
from onecrest.permanents import choice, is_no_choice, no_choice, permanent
from onecrest.pieces import is_whole, is_whole_tree, pieces, whole_tree
from onecrest.ratios import is_from_nought, is_numbers, ratio_of, ratios_of
from onecrest.rows import dent_at, is_dip, is_even, is_gap, shares_of, shares_slack
from onecrest.signs import has_one, is_never_below, is_two_above, one_below, two_above
from onecrest.squares import are_never_below, has_one_above, is_squares, squares
from onecrest.tables import value_at

CONTRARIES = (("crested", "dented"), ("whole", "apart"), ("exchanges", "stuck"), ("one", "more"), ("sound", "sunk"),
              ("even", "dips"), ("choice", "none"), ("lets", "bars"))
BLEND_WORDS = ("crested", "dented", "whole", "apart", "exchanges", "stuck")
# claims of these words speak of a blend with one amount moved, as claims of those words of the blend itself
MOVED_WORDS = {"lets": "crested", "bars": "dented"}


def words():
    """The tuples of the two words of each line of claims."""
    return list(CONTRARIES)


def is_claim(value):
    """Whether any value is a claim."""
    return truth_of(value) is not None


def is_true(claim):
    """Whether a claim is true."""
    truth = truth_of(claim)
    if truth is None:
        raise InvalidClaim(claim)
    return truth


def contrary(claim):
    """The claim of the other word, with the same parts."""
    is_true(claim)
    first, second = _line_of(claim[0])
    return (second if claim[0] == first else first,) + fresh(claim[1:])


def paper_of(claim):
    """A paper that shows a claim, None if it is not true."""
    if not is_true(claim):
        return None
    word, part = _plain(claim)
    return _blend_paper(word, part) if word in BLEND_WORDS else _number_paper(word, part)


def is_paper_of(claim, value):
    """Whether any value is a paper of a claim."""
    is_true(claim)
    word, part = _plain(claim)
    if word in BLEND_WORDS:
        return _is_blend_paper(word, part, value)
    return _is_number_paper(word, part, value)


def truth_of(value):
    """Whether a claim is true; None for any value that is no claim."""
    if not isinstance(value, tuple) or len(value) == 0 or _line_of(value[0]) is None:
        return None
    if len(value) != (4 if value[0] in MOVED_WORDS else 2):
        return None
    try:
        word, part = _plain(value)
        first = _line_of(word)[0]
        return _is_first_true(first, part) == (word == first)
    except (CrestError, LimitError):
        return None


def _line_of(word):
    """The line of words in which any value stands, None without one."""
    for line in CONTRARIES:
        if isinstance(word, str) and word in line:
            return line
    return None


def _plain(claim):
    """The word and the one part by which a claim is told; raises what moving an amount raises."""
    if claim[0] in MOVED_WORDS:
        _, blend, counts, number = claim
        return MOVED_WORDS[claim[0]], with_amount(blend, counts, number)
    return claim


def _is_first_true(word, part):
    """Whether the first word of a line is true of any part; raises the errors of the function that tells it."""
    if word == "crested":
        return is_crested(part)
    if word == "whole":
        return is_whole(part)
    if word == "exchanges":
        return mates(part) is not None
    if word == "one":
        return has_one(part)
    if word == "sound":
        return is_never_below(part)
    if word == "even":
        return is_even(part)
    return permanent(part).sign > 0


def _blend_paper(word, blend):
    """A paper of a true claim about a blend."""
    if word == "crested":
        return crest_paper(blend)
    if word == "dented":
        return dent(blend)
    if word == "whole":
        return whole_tree(blend)
    if word == "apart":
        return pieces(blend)[0]
    return mates(blend) if word == "exchanges" else misfit(blend)


def _number_paper(word, part):
    """A paper of a true claim about a table, a row or rows."""
    if word in ("one", "sound"):
        return squares(part)
    if word == "more":
        return two_above(part)
    if word == "sunk":
        return one_below(part)
    if word == "even":
        return _slacks(part)
    if word == "dips":
        return dent_at(part)
    return choice(part) if word == "choice" else no_choice(part)


def _is_blend_paper(word, blend, value):
    """Whether any value is a paper of a claim about a blend."""
    if word == "crested":
        return is_crest_paper(blend, value)
    if word == "dented":
        return is_dent(blend, value)
    if word == "whole":
        return is_whole_tree(blend, value)
    if word == "apart":
        return _is_apart_lot(blend, value)
    return is_mates(blend, value) if word == "exchanges" else is_misfit(blend, value)


def _is_number_paper(word, part, value):
    """Whether any value is a paper of a claim about a table, a row or rows."""
    if word == "one":
        return is_squares(part, value) and has_one_above(value)
    if word == "sound":
        return is_squares(part, value) and are_never_below(value)
    if word == "more":
        return is_two_above(part, value)
    if word == "sunk":
        return is_numbers(value, len(part)) and value_at(part, value, value).sign < 0
    if word == "even":
        return _is_slacks(part, value)
    if word == "dips":
        return is_count(value) and 1 <= value <= len(part) - 2 and is_dip(part, value)
    return _is_choice(part, value) if word == "choice" else is_no_choice(part, value)


def _is_apart_lot(blend, value):
    """Whether any value is some standing letters, not all, that stand in no product with others."""
    standing = blend.bears()
    if not isinstance(value, str) or not 1 <= len(value) < len(standing) or not is_rising(value):
        return False
    if not all([letter in standing for letter in value]):
        return False
    for counts, _ in blend.entries():
        if sum([count for count, letter in zip(counts, blend.letters) if letter in value]) not in (0, blend.degree):
            return False
    return True


def _slacks(row):
    """For each position between both ends its share times itself, less the product of its neighbours' shares."""
    shares = shares_of(row)
    return [shares_slack(shares, position) for position in range(1, len(row) - 1)]


def _is_slacks(row, value):
    """Whether any value is the slacks of a row that has no dip."""
    if not is_from_nought(value, len(row) - 2) or any([is_gap(row, position) for position in range(1, len(row) - 1)]):
        return False
    return ratios_of(value) == _slacks(row)


def _is_choice(rows, value):
    """Whether any value is unlike positions of entries above 0, one for each row."""
    if not is_list(value) or len(value) != len(rows):
        return False
    if not all([is_count(position) and position < len(rows) for position in value]):
        return False
    return len(set(value)) == len(rows) and all([ratio_of(row[at]).sign > 0 for row, at in zip(rows, value)])
