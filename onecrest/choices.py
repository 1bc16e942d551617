"""Lots of things: rising tuples of COUNTS, told by length, then sorted; ways stand so, too."""


def by_length(lots):
    """The lots, or ways, by length, then sorted."""
    return sorted(lots, key=_length_first)


def all_lots(many):
    """All lots of so many things."""
    found = [()]
    for thing in range(many):
        found = found + [lot + (thing,) for lot in found]
    return by_length(found)


def _length_first(lot):
    return len(lot), lot
