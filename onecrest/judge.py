"""Whether a blend is crested, and the paper for it: trees and squares, or a dent."""

from onecrest.checks import check_blend
from onecrest.pieces import halves, is_whole_tree, whole_tree
from onecrest.quadrics import table_of
from onecrest.ratios import Ratio, is_above, is_numbers, nearest
from onecrest.signs import level
from onecrest.squares import has_one_above, is_squares, squares
from onecrest.taken import all_ways, is_way, taken
from onecrest.worths import bends_up, worth


def is_crested(blend):
    """Whether no blend that it leaves bends up anywhere."""
    return fault(blend) is None


def fault(blend):
    """The first way, the shortest ones first, that is a fault; None if there is none."""
    for way in all_ways(blend):
        if _shown(taken(blend, way)) is None:
            return way
    return None


def crest_paper(blend):
    """Trees and squares of what each way leaves, by the ways; None if the blend is not crested."""
    paper = {}
    for way in all_ways(blend):
        shown = _shown(taken(blend, way))
        if shown is None:
            return None
        paper[way] = shown
    return paper


def is_crest_paper(blend, value):
    """Whether any value is a crest paper of the blend."""
    wanted = all_ways(blend)
    if not isinstance(value, dict) or len(value) != len(wanted):
        return False
    if not all([way in value for way in wanted]):
        return False
    return all([_is_shown(taken(blend, way), value[way]) for way in wanted])


def dent(blend):
    """A way, weights and a direction at which what is left bends up; None if the blend is crested."""
    way = fault(blend)
    if way is None:
        return None
    left = taken(blend, way)
    weights = [Ratio(1) for _ in blend.letters]
    direction = level(table_of(left), weights) if left.degree == 2 else _apart_direction(left, weights)
    return way, weights, _shortened(left, weights, direction)


def is_dent(blend, value):
    """Whether any value is a dent of the blend."""
    check_blend(blend)
    if not isinstance(value, tuple) or len(value) != 3:
        return False
    way, weights, direction = value
    many = len(blend.letters)
    if not is_way(blend, way) or not is_numbers(weights, many) or not is_numbers(direction, many):
        return False
    return all([is_above(weight) for weight in weights]) and bends_up(taken(blend, way), weights, direction)


def judged(blend):
    """The word crested with a crest paper, or the word dented with a dent."""
    paper = crest_paper(blend)
    if paper is None:
        return "dented", dent(blend)
    return "crested", paper


def _shown(left):
    """What shows that a blend left is no fault: a tree, or squares of which at most one is above; else None."""
    if left.degree > 2:
        return whole_tree(left)
    found = squares(table_of(left))
    return found if has_one_above(found) else None


def _is_shown(left, value):
    """Whether any value shows that a blend left is no fault."""
    if left.degree > 2:
        return is_whole_tree(left, value)
    return is_squares(table_of(left), value) and has_one_above(value)


def _apart_direction(left, weights):
    """A direction without a slope in which a blend bends up that falls into two halves."""
    one, two = halves(left)
    change, other = worth(two, weights), -worth(one, weights)
    direction = []
    for letter in left.letters:
        if letter in one.bears():
            direction.append(change)
        else:
            direction.append(other if letter in two.bears() else Ratio(0))
    return direction


def _shortened(left, weights, direction):
    """INTEGERS, short ones, that are nearly a multiple of a direction in which a blend bends up, and are one, too."""
    scale = 1
    short = nearest(direction, scale)
    while not bends_up(left, weights, short):
        scale = scale * 10
        short = nearest(direction, scale)
    return short
