"""Weights at which a blend is worth the least for the product of its weights."""

from onecrest.chances import check_weighed
from onecrest.errors import NotLeast, UnlikeDegree
from onecrest.permanents import least_permanent
from onecrest.taken import taken
from onecrest.worths import worth


def is_least(blend, weights):
    """Whether each letter's weight times the worth of what is left without it is the same number."""
    _check_once(blend, weights)
    parts = [worth(taken(blend, letter), weights) * weight for letter, weight in zip(blend.letters, weights)]
    return all([part == parts[0] for part in parts])


def least_worth(blend, weights):
    """The worth over the product of all weights, at least weights."""
    _check_least(blend, weights)
    found = worth(blend, weights)
    for weight in weights:
        found = found.over(weight)
    return found


def once_slack(blend, weights):
    """The amount of all letters once, less what a crested blend of this least worth has at least."""
    _check_least(blend, weights)
    once = blend.amount([1 for _ in blend.letters])
    return once - least_worth(blend, weights) * least_permanent(blend.degree)


def _check_once(blend, weights):
    """Asks for weights of a blend that has as many letters as its degree."""
    check_weighed(blend, weights)
    if blend.degree != len(blend.letters):
        raise UnlikeDegree()


def _check_least(blend, weights):
    if not is_least(blend, weights):
        raise NotLeast()
