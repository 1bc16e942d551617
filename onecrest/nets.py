"""Nets of places and ties, their forests and trees, and vectors whose free lots are the forests."""

from onecrest.basics import is_integer, is_list, is_rising_counts
from onecrest.choices import all_lots
from onecrest.errors import InvalidNet, InvalidPlaces, InvalidTies, NoTies, TooMany
from onecrest.ratios import Ratio

MOST_PLACES = 6
MOST_TIES = 7


class Net:
    """Some places, and ties between two of them; it never changes."""

    def __init__(self, places, ties):
        if not is_integer(places) or not 1 <= places <= MOST_PLACES:
            raise InvalidPlaces(places)
        if not is_list(ties):
            raise InvalidTies(None)
        for position, tie in enumerate(ties):
            if not isinstance(tie, tuple) or len(tie) != 2 or not is_rising_counts(tie, places):
                raise InvalidTies(position)
        if len(ties) > MOST_TIES:
            raise TooMany("ties", MOST_TIES)
        self._places = places
        self._ties = list(ties)

    @property
    def places(self):
        return self._places

    def ties(self):
        """The list of the ties, as passed."""
        return list(self._ties)

    def __len__(self):
        return len(self._ties)

    def __eq__(self, other):
        return isinstance(other, Net) and self._places == other._places and self._ties == other._ties


def forests(net):
    """All lots of ties that make no ring, by length, then sorted."""
    _check_net(net)
    return [lot for lot in all_lots(len(net)) if _is_forest(net, lot)]


def trees(net):
    """The forests by which one comes from each place to each other one."""
    return [lot for lot in forests(net) if len(lot) == net.places - 1]


def net_vectors(net):
    """For each tie a list with 1 and -1 at its places; the last place has no number."""
    _check_net(net)
    if len(net) == 0:
        raise NoTies()
    return [[_number_at(tie, place) for place in range(net.places - 1)] for tie in net.ties()]


def _check_net(net):
    if not isinstance(net, Net):
        raise InvalidNet(net)


def _is_forest(net, lot):
    """Whether each tie of the lot, by turns, joins places that were not yet joined."""
    ties = net.ties()
    parts = list(range(net.places))
    for position in lot:
        one, two = [parts[place] for place in ties[position]]
        if one == two:
            return False
        parts = [one if part == two else part for part in parts]
    return True


def _number_at(tie, place):
    """What the vector of a tie has at a place."""
    if place == tie[0]:
        return Ratio(1)
    return Ratio(-1 if place == tie[1] else 0)
