"""The deeds of a desk: each makes new contents of its contents and of what its command tells."""

from onecrest.blends import Blend
from onecrest.changes import alike, cut
from onecrest.claims import is_claim
from onecrest.contents import claim_told, with_blends, with_claim, with_weights, without_claim
from onecrest.errors import InvalidClaim, InvalidLetter, InvalidNumber
from onecrest.moved import with_amount, without
from onecrest.taken import taken


def contents_behind(contents, word, parts):
    """The contents behind a deed; raises what keeps it from being done."""
    deed = ACTIONS[word]
    return deed(contents, parts)


def _kept(contents, name, blend):
    """The contents with a blend under a name."""
    blends = dict(contents.blends)
    blends[name] = blend
    return with_blends(contents, blends, name)


def _counts(blend, product):
    """How often a product has each letter of the blend; the blend must have all of its letters."""
    for letter in product:
        if letter not in blend.letters:
            raise InvalidLetter(letter)
    return tuple([product.count(letter) for letter in blend.letters])


def _blend(contents, parts):
    name, letters = parts
    return _kept(contents, name, Blend(letters))


def _put(contents, parts):
    name, product, amount = parts
    blend = contents.blends[name]
    return _kept(contents, name, with_amount(blend, _counts(blend, product), amount))


def _take(contents, parts):
    name, product = parts
    blend = contents.blends[name]
    return _kept(contents, name, without(blend, _counts(blend, product)))


def _scale(contents, parts):
    name, amount = parts
    return _kept(contents, name, contents.blends[name].scaled(amount))


def _copy(contents, parts):
    name, one = parts
    return _kept(contents, name, contents.blends[one])


def _left(contents, parts):
    name, one, way = parts
    return _kept(contents, name, taken(contents.blends[one], way))


def _sum(contents, parts):
    name, one, other = parts
    return _kept(contents, name, contents.blends[one] + contents.blends[other])


def _times(contents, parts):
    name, one, other = parts
    return _kept(contents, name, contents.blends[one] * contents.blends[other])


def _alike(contents, parts):
    name, one, letter, second = parts
    return _kept(contents, name, alike(contents.blends[one], letter, second))


def _cut(contents, parts):
    name, one, letter, many = parts
    return _kept(contents, name, cut(contents.blends[one], letter, many))


def _drop(contents, parts):
    blends = {name: contents.blends[name] for name in contents.blends if name != parts[0]}
    return with_blends(contents, blends, parts[0])


def _weigh(contents, parts):
    weights = dict(contents.weights)
    weights[parts[0]] = parts[1]
    return with_weights(contents, weights, contents.paces)


def _pace(contents, parts):
    paces = dict(contents.paces)
    paces[parts[0]] = parts[1]
    return with_weights(contents, contents.weights, paces)


def _go(contents, parts):
    weights = {letter: contents.weights[letter] + contents.paces[letter] * parts[0] for letter in contents.weights}
    if any([weights[letter].sign <= 0 for letter in weights]):
        raise InvalidNumber(parts[0])
    return with_weights(contents, weights, contents.paces)


def _claim(contents, parts):
    label, word, name, way = parts
    claim = claim_told(word, contents.blends[name], way)
    if not is_claim(claim):
        raise InvalidClaim(claim)
    return with_claim(contents, label, (word, name, way))


def _forget(contents, parts):
    return without_claim(contents, parts[0])


ACTIONS = {"blend": _blend, "put": _put, "take": _take, "scale": _scale, "copy": _copy, "left": _left, "sum": _sum,
           "times": _times, "alike": _alike, "cut": _cut, "drop": _drop, "weigh": _weigh, "pace": _pace, "go": _go,
           "claim": _claim, "forget": _forget}
