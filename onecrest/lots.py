"""Houses of lots, like the free lots of rows of numbers, what comes out of them, and their blends."""

from onecrest.basics import is_count, is_list, is_rising_counts
from onecrest.blends import Blend
from onecrest.choices import all_lots, by_length
from onecrest.errors import IdleThing, InvalidLots, InvalidMany, InvalidThing, InvalidThings, NotHouse, TooMany

MOST_THINGS = 7
THING_LETTERS = "abcdefg"
LAST_LETTER = "z"


def is_house(many, lots):
    """Whether the lots are a house."""
    return bad_lot(many, lots) is None


def bad_lot(many, lots):
    """What keeps the lots from being a house: a lot that lacks, or two that are stuck; None of a house."""
    check_lots(many, lots)
    held = {lot: True for lot in lots}
    lacks = [lot for lot in _wanted(lots) if lot not in held]
    if lacks:
        return "lacks", by_length(lacks)[0]
    sorted_lots = by_length(lots)
    for lot in sorted_lots:
        for other in sorted_lots:
            if len(lot) < len(other) and _is_stuck(held, lot, other):
                return "stuck", lot, other
    return None


def greatest(many, lots):
    """The lots of the most things."""
    _check_house(many, lots)
    return _greatest(lots)


def without(many, lots, thing):
    """The lots that do not have a thing."""
    _check_thing(many, lots, thing)
    _check_house(many, lots)
    return by_length([lot for lot in lots if thing not in lot])


def having(many, lots, thing):
    """The lots that have a thing, each without it."""
    _check_thing(many, lots, thing)
    _check_house(many, lots)
    found = [_less(lot, thing) for lot in lots if thing in lot]
    if len(found) == 0:
        raise IdleThing(thing)
    return by_length(found)


def cut(many, lots, size):
    """The lots of at most so many things."""
    check_lots(many, lots)
    if not is_count(size):
        raise InvalidMany(size)
    _check_house(many, lots)
    return by_length([lot for lot in lots if len(lot) <= size])


def mirror(many, lots):
    """All tuples of things that leave out some greatest lot."""
    _check_house(many, lots)
    most = _greatest(lots)
    return [lot for lot in all_lots(many) if any([not _meets(lot, other) for other in most])]


def beside(many, lots, more, others):
    """Each lot of the one house and each of the other together, the other one's things being numbered behind."""
    check_lots(many, lots)
    check_lots(more, others)
    _check_house(many, lots)
    _check_house(more, others)
    if many + more > MOST_THINGS:
        raise TooMany("things", MOST_THINGS)
    moved = [tuple([thing + many for thing in other]) for other in others]
    return by_length([lot + other for lot in lots for other in moved])


def rank_in(many, lots, things):
    """The greatest length of a lot among some things."""
    check_lots(many, lots)
    if not is_rising_counts(things, many):
        raise InvalidThings(things)
    _check_house(many, lots)
    return max([len(lot) for lot in lots if all([thing in things for thing in lot])])


def house_blend(many, lots):
    """The blend of any lots: a letter for each thing, and z for what lacks to all things."""
    check_lots(many, lots)
    entries = [(_counts(many, lot) + [many - len(lot)], 1) for lot in lots]
    return Blend(THING_LETTERS[:many] + LAST_LETTER, entries)


def greatest_blend(many, lots):
    """The blend of the greatest lots of a house, with the letters of the things alone."""
    if many == 0:
        raise InvalidMany(many)
    _check_house(many, lots)
    return Blend(THING_LETTERS[:many], [(_counts(many, lot), 1) for lot in _greatest(lots)])


def check_lots(many, lots):
    """Asks for lots of so many things."""
    if not is_count(many) or many > MOST_THINGS:
        raise InvalidMany(many)
    if not is_list(lots):
        raise InvalidLots(None)
    met = {}
    for position, lot in enumerate(lots):
        if not isinstance(lot, tuple) or not is_rising_counts(lot, many) or lot in met:
            raise InvalidLots(position)
        met[lot] = True


def _check_house(many, lots):
    if not is_house(many, lots):
        raise NotHouse()


def _check_thing(many, lots, thing):
    check_lots(many, lots)
    if not is_count(thing) or thing >= many:
        raise InvalidThing(thing)


def _wanted(lots):
    """What should be lots: that of no things, and each lot without one of its things."""
    return [()] + [_less(lot, thing) for lot in lots for thing in lot]


def _is_stuck(held, lot, other):
    """Whether no thing of the other lot can be added to a lot."""
    added = [tuple(sorted(lot + (thing,))) for thing in other if thing not in lot]
    return not any([longer in held for longer in added])


def _greatest(lots):
    """The longest lots, sorted."""
    most = max([len(lot) for lot in lots])
    return sorted([lot for lot in lots if len(lot) == most])


def _less(lot, thing):
    """The lot without a thing."""
    return tuple([held for held in lot if held != thing])


def _meets(lot, other):
    """Whether two lots have a thing together."""
    return any([thing in other for thing in lot])


def _counts(many, lot):
    """How often a lot has each of so many things."""
    return [1 if thing in lot else 0 for thing in range(many)]
