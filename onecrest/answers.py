"""What a desk answers to questions about its contents, by the words of their commands."""

from onecrest.chances import chance
from onecrest.contents import states_text
from onecrest.exchange import misfit
from onecrest.hulls import reach
from onecrest.judge import fault, is_crested
from onecrest.pieces import apart_way, pieces
from onecrest.quadrics import table_of
from onecrest.signs import signs
from onecrest.taken import way_of
from onecrest.wording import way_text
from onecrest.worths import bend, bends_up, lean, slope, worth


def answer(contents, word, parts):
    """The answer to a question, a string; raises what the function raises that tells it."""
    tell = ANSWERS[word]
    return tell(contents, parts)


def _blend(contents, parts):
    """The blend that is kept under the first name."""
    return contents.blends[parts[0]]


def _line(contents, parts):
    """The blend that is kept under the first name, its weights and its direction."""
    blend = _blend(contents, parts)
    weights = [contents.weights[letter] for letter in blend.letters]
    return blend, weights, [contents.paces[letter] for letter in blend.letters]


def _yes_or_no(truth):
    return "yes" if truth else "no"


def _way_or_none(way):
    return "none" if way is None else way_text(way)


def _product(blend, counts):
    return way_text(way_of(blend.letters, counts))


def _numbers(numbers):
    return " ".join([str(number) for number in numbers])


def _state(contents, parts):
    return contents.states[parts[0]]


def _states(contents, _):
    return states_text(contents, list(contents.states))


def _claimed(contents, parts):
    word, name, way = contents.claims[parts[0]]
    return f"{word} {name} {way_text(way)}"


def _names(contents, _):
    return " ".join(sorted(contents.blends)) or "-"


def _letters(contents, parts):
    return _blend(contents, parts).letters


def _products(contents, parts):
    blend = _blend(contents, parts)
    return ", ".join([f"{_product(blend, counts)} {amount}" for counts, amount in blend.entries()]) or "-"


def _weights(contents, parts):
    return _numbers(_line(contents, parts)[1])


def _paces(contents, parts):
    return _numbers(_line(contents, parts)[2])


def _worth(contents, parts):
    blend, weights, _ = _line(contents, parts)
    return str(worth(blend, weights))


def _slope(contents, parts):
    blend, weights, paces = _line(contents, parts)
    return str(slope(blend, weights, paces))


def _bend(contents, parts):
    blend, weights, paces = _line(contents, parts)
    return str(bend(blend, weights, paces))


def _lean(contents, parts):
    blend, weights, paces = _line(contents, parts)
    return str(lean(blend, weights, paces))


def _swells(contents, parts):
    blend, weights, paces = _line(contents, parts)
    return _yes_or_no(bends_up(blend, weights, paces))


def _crested(contents, parts):
    return _yes_or_no(is_crested(_blend(contents, parts)))


def _fault(contents, parts):
    return _way_or_none(fault(_blend(contents, parts)))


def _parts(contents, parts):
    return _way_or_none(apart_way(_blend(contents, parts)))


def _pieces(contents, parts):
    return " ".join(pieces(_blend(contents, parts))) or "-"


def _signs(contents, parts):
    return _numbers(signs(table_of(_blend(contents, parts))))


def _misfit(contents, parts):
    blend = _blend(contents, parts)
    told = misfit(blend)
    if told is None:
        return "none"
    counts, other, letter = told
    return f"{_product(blend, counts)} {_product(blend, other)} {letter}"


def _reach(contents, parts):
    return str(reach(_blend(contents, parts), parts[1]))


def _chance(contents, parts):
    blend, weights, _ = _line(contents, parts)
    return str(chance(blend, weights, parts[1]))


ANSWERS = {"state": _state, "states": _states, "claimed": _claimed, "names": _names, "letters": _letters,
           "products": _products, "weights": _weights, "paces": _paces, "worth": _worth, "slope": _slope, "bend": _bend,
           "lean": _lean, "swells": _swells, "crested": _crested, "fault": _fault, "parts": _parts, "pieces": _pieces,
           "signs": _signs, "misfit": _misfit, "reach": _reach, "chance": _chance}
