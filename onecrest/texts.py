"""The written forms of blends, tables, dents and papers: lines of words."""

from onecrest.basics import is_count, is_list, is_small_letter
from onecrest.blends import MOST_LETTERS, Blend
from onecrest.choices import by_length
from onecrest.errors import InvalidThing
from onecrest.ratios import is_above, is_number, is_numbers, ratio_of
from onecrest.tables import is_table
from onecrest.wording import is_any_way, way_text


def written(thing):
    """The written form of a blend, a table, a dent or a paper."""
    if isinstance(thing, Blend):
        lines = _blend_lines(thing)
    elif is_table(thing):
        lines = [f"table {len(thing)}"] + [_line("row", row) for row in thing]
    elif _is_dent(thing):
        lines = [f"dent {way_text(thing[0])}", _line("weights", thing[1]), _line("direction", thing[2])]
    elif _is_paper(thing):
        lines = _paper_lines(thing)
    else:
        raise InvalidThing(thing)
    return "".join([line + "\n" for line in lines])


def _line(word, numbers):
    """A word, and numbers behind it."""
    return " ".join([word] + [str(ratio_of(number)) for number in numbers])


def _blend_lines(blend):
    return [f"blend {blend.letters}"] + [_line("product", counts + (amount,)) for counts, amount in blend.entries()]


def _paper_lines(paper):
    """The lines of a paper, way by way."""
    lines = ["paper"]
    for way in by_length(paper):
        shown = paper[way]
        if _is_tree(shown):
            lines.append(f"at {way_text(way)} tree")
            lines.extend([_line(f"tie {letter} {other}", counts) for letter, other, counts in shown])
        else:
            lines.append(f"at {way_text(way)} squares")
            lines.extend([_line("square", [number] + list(form)) for number, form in shown])
    return lines


def _is_dent(value):
    """Whether any value is a dent by its form alone, whatever blend it is for."""
    if not isinstance(value, tuple) or len(value) != 3:
        return False
    way, weights, direction = value
    if not is_any_way(way) or not _is_some_numbers(weights) or not is_numbers(direction, len(weights)):
        return False
    return all([is_above(weight) for weight in weights])


def _is_paper(value):
    """Whether any value is a paper by its form alone: a dict from ways to trees and squares."""
    if not isinstance(value, dict):
        return False
    return all([is_any_way(way) and (_is_tree(value[way]) or _is_squares(value[way])) for way in value])


def _is_tree(value):
    """Whether any value is a list of ties, perhaps empty."""
    return is_list(value) and all([_is_tie(tie) for tie in value])


def _is_squares(value):
    """Whether any value is a list of squares."""
    return is_list(value) and all([_is_square(square) for square in value])


def _is_tie(value):
    """Whether any value is a tuple of two unlike letters and 1 to 8 COUNTS."""
    if not isinstance(value, tuple) or len(value) != 3:
        return False
    letter, other, counts = value
    if not is_small_letter(letter) or not is_small_letter(other) or letter == other:
        return False
    return is_list(counts) and 1 <= len(counts) <= MOST_LETTERS and all([is_count(count) for count in counts])


def _is_square(value):
    """Whether any value is a tuple of a NUMBER that is not 0 and 1 to 8 NUMBERS."""
    if not isinstance(value, tuple) or len(value) != 2:
        return False
    return is_number(value[0]) and ratio_of(value[0]).sign != 0 and _is_some_numbers(value[1])


def _is_some_numbers(value):
    """Whether any value is a list of 1 to 8 NUMBERS."""
    return is_list(value) and 1 <= len(value) <= MOST_LETTERS and is_numbers(value, len(value))
