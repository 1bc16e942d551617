"""Letters taken out of a blend, and the ways to do so."""

from math import perm

from onecrest.basics import is_count
from onecrest.blends import MOST_DEGREE, Blend
from onecrest.checks import check_blend
from onecrest.errors import InvalidMany, InvalidWay, TooMany

MOST_WAYS = 300


def is_way(blend, value):
    """Whether any value is a way of the blend."""
    check_blend(blend)
    if not isinstance(value, str) or len(value) > MOST_DEGREE:
        return False
    return list(value) == sorted(value) and all([letter in blend.letters for letter in value])


def taken(blend, way):
    """What the blend leaves by a way."""
    check_blend(blend)
    if not is_way(blend, way):
        raise InvalidWay(way)
    outs = [way.count(letter) for letter in blend.letters]
    entries = []
    for counts, amount in blend.entries():
        left = tuple([count - out for count, out in zip(counts, outs)])
        if min(left) >= 0:
            entries.append((left, amount * _times_taken(counts, outs)))
    return Blend(blend.letters, entries)


def ways(blend, many):
    """The sorted list of the ways of so many letters that do not leave nought."""
    check_blend(blend)
    if not is_count(many) or many > MOST_DEGREE:
        raise InvalidMany(many)
    levels = _levels(blend)
    return _ways_of(blend, levels[many]) if many < len(levels) else []


def all_ways(blend):
    """All ways that leave a blend of degree 2 or more, the shorter ones first."""
    check_blend(blend)
    found = []
    for level in _levels(blend)[:-2]:
        found.extend(_ways_of(blend, level))
    if len(found) > MOST_WAYS:
        raise TooMany("ways", MOST_WAYS)
    return found


def way_of(letters, counts):
    """The string of the letters, each so often as the counts tell."""
    return "".join([letter * count for letter, count in zip(letters, counts)])


def _times_taken(counts, outs):
    """By how much an amount is multiplied when each letter is taken out so often."""
    times = 1
    for count, out in zip(counts, outs):
        times = times * perm(count, out)
    return times


def _levels(blend):
    """For each number of letters, up to the degree, all counts that some product covers."""
    if blend.is_nought:
        return []
    levels = [[counts for counts, _ in blend.entries()]]
    for _ in range(blend.degree):
        levels.append(_one_fewer(levels[-1]))
    return levels[::-1]


def _one_fewer(level):
    """All counts that come from some of these when one letter is left out once."""
    return sorted({_lessened(counts, place) for counts in level for place, count in enumerate(counts) if count > 0})


def _lessened(counts, place):
    return counts[:place] + (counts[place] - 1,) + counts[place + 1:]


def _ways_of(blend, level):
    """The sorted list of the ways that have these counts."""
    return sorted([way_of(blend.letters, counts) for counts in level])
