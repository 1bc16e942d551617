"""Nets, forests, trees, vectors of nets [65]."""

import random
from itertools import combinations

from onecrest.errors import InvalidNet, InvalidPlaces, InvalidTies, NoTies, TooMany
from onecrest.judge import is_crested
from onecrest.lots import greatest, greatest_blend, house_blend, is_house
from onecrest.nets import Net, forests, net_vectors, trees
from onecrest.ratios import Ratio
from onecrest.sizes import is_even_row, sizes
from onecrest.tables import minor
from onecrest.vectors import free_lots
from plain import ODD_VALUES, Case, exact

NO_NETS = [*ODD_VALUES, [(0, 1)], (2, [(0, 1)])]


def every_tie(places):
    return list(combinations(range(places), 2))


def nets(seed, many=60):
    """Random nets, also with ties that are alike and places that no tie touches."""
    draw = random.Random(seed)
    yield from (Net(1, []), Net(6, []), Net(2, [(0, 1)] * 7), Net(3, [(0, 1), (1, 2), (0, 2)]), Net(4, [(2, 3)]),
                Net(4, every_tie(4)), Net(6, [(0, 1), (1, 2), (2, 3), (3, 4), (4, 5), (0, 5)]))
    for _ in range(many):
        places = draw.randint(2, 6)
        yield Net(places, [draw.choice(every_tie(places)) for _ in range(draw.randint(0, 7))])


def come_to(ties, start):
    """All places to which one comes along the ties."""
    found, fresh = {start}, [start]
    while fresh:
        place = fresh.pop()
        for tie in ties:
            if place in tie:
                other = sum(tie) - place
                if other not in found:
                    found.add(other)
                    fresh.append(other)
    return found


def has_ring(ties):
    """Whether one comes from one end of a tie to the other end along other ties."""
    return any(tie[1] in come_to(ties[:at] + ties[at + 1:], tie[0]) for at, tie in enumerate(ties))


def plain_forests(net):
    ties = net.ties()
    return [lot for size in range(len(ties) + 1) for lot in combinations(range(len(ties)), size)
            if not has_ring([ties[at] for at in lot])]


class NetTest(Case):
    def test_document(self):
        net = Net(3, [(0, 1), (1, 2), (0, 2)])
        self.same([trees(net), [[str(number) for number in row] for row in net_vectors(net)]],
                  [[(0, 1), (0, 2), (1, 2)], [["1", "-1"], ["0", "1"], ["1", "0"]]])

    def test_parts(self):
        ties = [(0, 3), (1, 2), (0, 3), (2, 5)]
        net = Net(6, ties)
        self.same([net.places, net.ties(), len(net)], [6, [(0, 3), (1, 2), (0, 3), (2, 5)], 4])
        self.same(self.keeps(Net.ties, net), ties)
        ties.append((0, 1))
        net.ties().append((0, 1))
        self.same([net.ties(), len(net)], [ties[:4], 4])
        self.same(Net(ties=tuple(ties), places=6).ties(), ties)
        with self.assertRaises(AttributeError):
            net.places = 5
        self.same([len(Net(1, [])), Net(1, ()).ties(), Net(5, []).places], [0, [], 5])

    def test_equal(self):
        net = Net(3, [(0, 1), (1, 2)])
        self.assertIs(net == Net(3, ((0, 1), (1, 2))), True)
        for other in (Net(3, [(1, 2), (0, 1)]), Net(4, [(0, 1), (1, 2)]), Net(3, [(0, 1)]), Net(3, []),
                      Net(3, [(0, 1), (1, 2), (1, 2)]), *ODD_VALUES, [(0, 1), (1, 2)]):
            self.assertIs(net == other, False)
            self.assertIs(other == net, False)
            self.assertIs(net != other, True)
        self.assertIs(Net(2, []) == Net(2, []), True)

    def test_wrong_places(self):
        wrong = [value for value in ODD_VALUES if exact(value) != exact(1)] + [7, 8, -1, Ratio(3), "3"]
        for value in [value for value in wrong if exact(value) != exact(0)] + [0]:
            self.fails(InvalidPlaces(value), Net, value, None)
            self.fails(InvalidPlaces(value), Net, ties=[(0, 1)], places=value)

    def test_wrong_ties(self):
        for value in [value for value in ODD_VALUES if not isinstance(value, (list, tuple))] + ["01", {(0, 1): 1}]:
            self.fails(InvalidTies(None), Net, 3, value)
            self.fails(InvalidTies(None), Net, ties=value, places=1)
        for part in ODD_VALUES + [(1, 0), (0, 0), (0, 3), (3, 4), (-1, 1), [0, 1], (0, True), (False, 1), (0, 1, 2), (0,),
                                  (0, Ratio(1)), (0, None), "01"]:
            for ties, at in (([part], 0), ([(0, 1), (0, 1), part, part], 2), (((1, 2), part, None), 1),
                             ([(0, 1)] * 8 + [part], 8)):
                self.fails(InvalidTies(at), Net, 3, ties)
                self.fails(InvalidTies(at), Net, ties=ties, places=3)
        self.fails(InvalidTies(0), Net, 1, [(0, 1)])
        self.fails(InvalidTies(0), Net, 1, [(0, 0)])

    def test_too_many_ties(self):
        self.same(len(Net(2, [(0, 1)] * 7)), 7)
        for many in (8, 15):
            self.fails(TooMany("ties", 7), Net, 2, [(0, 1)] * many)
        self.fails(TooMany("ties", 7), Net, ties=tuple(every_tie(6)), places=6)


class ForestsTest(Case):
    def test_along_ties(self):
        for net in nets(751):
            wanted = plain_forests(net)
            told = self.keeps(forests, net)
            self.same(told, wanted)
            self.same(forests(net=net), wanted)
            self.assertTrue(is_house(len(net), told))
            ties = net.ties()
            wanted = [lot for lot in wanted if len(come_to([ties[at] for at in lot], 0)) == net.places]
            told = self.keeps(trees, net)
            self.same(told, wanted)
            self.same(trees(net=net), wanted)
            if told:
                self.same(greatest(len(net), forests(net)), told)

    def test_trees_of_a_determinant(self):
        met = set()
        for net in nets(752):
            if net.places == 1:
                continue
            ties = net.ties()
            table = [[sum(i in tie for tie in ties) if i == j else -ties.count((min(i, j), max(i, j)))
                      for j in range(net.places - 1)] for i in range(net.places - 1)]
            self.same(minor(table, list(range(net.places - 1))), Ratio(len(trees(net))))
            met.add(len(trees(net)) > 0)
        self.assertEqual(met, {True, False})

    def test_edges(self):
        self.same([forests(Net(1, [])), trees(Net(1, []))], [[()], [()]])
        self.same([forests(Net(2, [])), trees(Net(2, []))], [[()], []])
        self.same(forests(Net(2, [(0, 1), (0, 1)])), [(), (0,), (1,)])
        self.same(trees(Net(2, [(0, 1)] * 3)), [(0,), (1,), (2,)])
        self.same(trees(Net(3, [(0, 1), (0, 1)])), [])
        self.same(trees(Net(6, [(0, 1), (1, 2), (2, 3), (3, 4), (4, 5)])), [(0, 1, 2, 3, 4)])
        self.same(len(trees(Net(4, every_tie(4)))), 16)

    def test_crested_and_even(self):
        for net in list(nets(753, 15)):
            lots = forests(net)
            if len(lots) < 40:
                self.assertIs(is_crested(house_blend(len(net), lots)), True)
            if len(net) > 0:
                self.assertIs(is_crested(greatest_blend(len(net), lots)), True)
            self.assertIs(is_even_row(sizes(len(net), lots), len(net)), True)

    def test_wrong(self):
        for value in NO_NETS:
            for call in (forests, trees, net_vectors):
                self.fails(InvalidNet(value), call, value)
                self.fails(InvalidNet(value), call, net=value)


class NetVectorsTest(Case):
    def test_vectors(self):
        for net in nets(761):
            if len(net) == 0:
                self.fails(NoTies(), net_vectors, net)
                self.fails(NoTies(), net_vectors, net=net)
                continue
            told = self.keeps(net_vectors, net)
            wanted = [[Ratio((place == one) - (place == two)) for place in range(net.places - 1)]
                      for one, two in net.ties()]
            self.same(told, wanted)
            self.same(net_vectors(net=net), wanted)
            self.same(free_lots(told), forests(net))

    def test_edges(self):
        self.same(net_vectors(Net(2, [(0, 1)])), [[Ratio(1)]])
        self.same(net_vectors(Net(3, [(1, 2), (0, 1)])), [[Ratio(0), Ratio(1)], [Ratio(1), Ratio(-1)]])
