"""Tables of quadrics, the blends of degree 2, and of all quadrics that a blend leaves."""

from onecrest.checks import check_blend
from onecrest.errors import NotQuadric
from onecrest.taken import all_ways, taken


def table_of(blend):
    """The second changes of a quadric, by its letters."""
    check_blend(blend)
    if blend.degree != 2:
        raise NotQuadric()
    many = len(blend.letters)
    return [[_second_change(blend, row, column) for column in range(many)] for row in range(many)]


def quadrics(blend):
    """The tables of all that the blend leaves with degree 2, by their ways."""
    return {way: table_of(taken(blend, way)) for way in all_ways(blend) if len(way) == blend.degree - 2}


def _second_change(quadric, row, column):
    """The amount of the product of the letters at two places, twice that of a square."""
    counts = [0] * len(quadric.letters)
    counts[row] += 1
    counts[column] += 1
    amount = quadric.amount(counts)
    return amount * 2 if row == column else amount
