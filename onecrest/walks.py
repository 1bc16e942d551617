"""Steps from lot to lot, that drop a letter and pick a lot anew, and how they come near to the chances."""

from onecrest.basics import is_count
from onecrest.chances import check_lot, check_lot_blend, check_weighed, has_all, products_chances
from onecrest.errors import InvalidLot, InvalidMany, TooMany
from onecrest.ratios import Ratio
from onecrest.squares import are_never_below, is_squares, squares
from onecrest.tables import dotted

MOST_LOTS = 20
MOST_STEPS = 12


def steps(blend, weights):
    """The chances of coming from each lot to each other one by one step."""
    return _steps(_few_chances(blend, weights), blend.degree)


def pace_table(blend, weights):
    """The pace table: how much of each lot's chance stays apart from the others by one step."""
    chances = _few_chances(blend, weights)
    stays = Ratio(blend.degree - 1, blend.degree)
    table = []
    for (lot, share), row in zip(chances, _steps(chances, blend.degree)):
        numbers = []
        for (other, part), step in zip(chances, row):
            kept = stays - step if lot == other else -step
            numbers.append(share * (kept + part.over(blend.degree)))
        table.append(numbers)
    return table


def pace_paper(blend, weights):
    """Squares of the pace table, none of them below 0; None if one is."""
    found = squares(pace_table(blend, weights))
    return found if are_never_below(found) else None


def is_pace_paper(blend, weights, value):
    """Whether any value is squares of the pace table, none of them below 0."""
    return is_squares(pace_table(blend, weights), value) and are_never_below(value)


def behind(blend, weights, lot, many):
    """The chances of all lots behind many steps from a lot."""
    chances = _chances_from(blend, weights, lot, many)
    table = _steps(chances, blend.degree)
    columns = [[row[place] for row in table] for place in range(len(table))]
    found = [Ratio(1 if other == lot else 0) for other, _ in chances]
    for _ in range(many):
        found = [dotted(found, column) for column in columns]
    return found


def farness(blend, weights, lot, many):
    """How far the chances behind many steps are from those at the weights."""
    parts = []
    for told, (_, share) in zip(behind(blend, weights, lot, many), products_chances(blend, weights)):
        parts.append(((told - share) * (told - share)).over(share))
    return Ratio.total(parts)


def far_bound(blend, weights, lot, many):
    """What the farness of a crested blend is never above."""
    chances = _chances_from(blend, weights, lot, many)
    bound = [Ratio(1).over(share) - 1 for other, share in chances if other == lot][0]
    for _ in range(2 * many):
        bound = bound * Ratio(blend.degree - 1, blend.degree)
    return bound


def _few_chances(blend, weights):
    """The tuples (lot, chance) of all lots, 20 at most."""
    chances = products_chances(blend, weights)
    if len(chances) > MOST_LOTS:
        raise TooMany("lots", MOST_LOTS)
    return chances


def _chances_from(blend, weights, lot, many):
    """As _few_chances, having asked for one of the lots and a number of steps."""
    check_weighed(blend, weights)
    check_lot(blend, lot)
    if not is_count(many) or many > MOST_STEPS:
        raise InvalidMany(many)
    check_lot_blend(blend)
    if blend.amount([1 if letter in lot else 0 for letter in blend.letters]).sign == 0:
        raise InvalidLot(lot)
    return _few_chances(blend, weights)


def _steps(chances, degree):
    """The table of steps between the lots of these chances."""
    table = []
    for lot, _ in chances:
        row = [Ratio(0) for _ in chances]
        for letter in lot:
            picked = _picked(chances, lot.replace(letter, ""))
            row = [number + share.over(degree) for number, share in zip(row, picked)]
        table.append(row)
    return table


def _picked(chances, left):
    """The chance of each lot when one of those with all letters left is picked."""
    held = [share if has_all(lot, left) else Ratio(0) for lot, share in chances]
    whole = Ratio.total(held)
    return [share.over(whole) for share in held]
