"""Houses of lots and what comes out of them, blends of lots [62] to [64]."""

import random
from itertools import combinations

from onecrest.blends import Blend
from onecrest.errors import (IdleThing, InvalidLots, InvalidMany, InvalidThing, InvalidThings, NotHouse, TooMany)
from onecrest.exchange import exchanges
from onecrest.judge import dent, is_crested, is_dent
from onecrest.lots import (bad_lot, beside, cut, greatest, greatest_blend, having, house_blend, is_house, mirror, rank_in,
                           without)
from onecrest.ratios import Ratio
from onecrest.vectors import free_lots
from plain import ODD_VALUES, Case, exact
from test_vectors import some_vectors

TWIG = [(), (0,), (1,), (2,), (0, 1), (0, 2)]
LINES = [(0, 1, 2), (0, 3, 4), (0, 5, 6), (1, 3, 5), (1, 4, 6), (2, 3, 6), (2, 4, 5)]
NO_MANY = [value for value in ODD_VALUES if exact(value) not in map(exact, (0, 1, 7))] + [8, 100, -1, Ratio(3)]
HOUSE_CALLS = ((greatest, {}), (without, {"thing": 0}), (having, {"thing": 0}), (cut, {"size": 1}), (mirror, {}),
               (rank_in, {"things": [0]}), (greatest_blend, {}))
CALLS = HOUSE_CALLS + ((is_house, {}), (bad_lot, {}), (house_blend, {}))


def every_lot(many):
    return [lot for size in range(many + 1) for lot in combinations(range(many), size)]


def seven():
    """A house of seven things that no vectors tell: all tuples of at most three, without the seven lines."""
    return [lot for lot in every_lot(7) if len(lot) <= 3 and lot not in LINES]


def by_length(lots):
    return sorted(lots, key=lambda lot: (len(lot), lot))


def plain_bad(many, lots):
    """By going through all tuples, and then all pairs."""
    held = set(lots)
    wanted = {()} | {tuple(part for part in lot if part != thing) for lot in held for thing in lot}
    for lot in every_lot(many):
        if lot in wanted and lot not in held:
            return ("lacks", lot)
    for lot in by_length(held):
        for other in by_length(held):
            if len(lot) < len(other) and not any(
                    tuple(sorted({*lot, thing})) in held for thing in other if thing not in lot):
                return ("stuck", lot, other)
    return None


def all_houses(many):
    """All houses of so many things (3 at most)."""
    every = every_lot(many)
    for held in range(2 ** len(every)):
        lots = [lot for at, lot in enumerate(every) if held >> at & 1]
        if plain_bad(many, lots) is None:
            yield lots


def houses(seed, many=25):
    """Houses of all kinds: the free lots of vectors, all lots of some lengths, mixed in their sequence."""
    draw = random.Random(seed)
    found = [(len(vectors), free_lots(vectors)) for vectors in some_vectors(seed, many)]
    found += [(3, TWIG), (0, [()]), (1, [()]), (1, [(), (0,)]), (7, seven()), (7, [()]), (7, every_lot(7)),
              (5, [lot for lot in every_lot(5) if len(lot) < 4])]
    for size, lots in found:
        yield draw, size, draw.sample(lots, len(lots))


def random_lots(seed, many=150):
    """Lots that are seldom a house: some of all, perhaps with all their parts."""
    draw = random.Random(seed)
    for _ in range(many):
        size = draw.randint(0, 5)
        every = every_lot(size)
        lots = draw.sample(every, draw.randint(0, min(len(every), 6)))
        if draw.random() < 0.7:
            lots = [part for part in every if any(set(part) <= set(lot) for lot in lots)]
            draw.shuffle(lots)
        if draw.random() < 0.3 and lots:
            lots.remove(draw.choice(lots))
        yield draw, size, lots


class HouseTest(Case):
    def test_document(self):
        self.same([bad_lot(3, TWIG), bad_lot(3, TWIG + [(0, 1, 2)]), mirror(3, TWIG), len(house_blend(3, TWIG))],
                  [None, ("lacks", (1, 2)), [(), (1,), (2,)], 6])

    def test_all_tuples_and_pairs(self):
        seen = set()
        for draw, many, lots in random_lots(711):
            wanted = plain_bad(many, lots)
            self.same(self.keeps(bad_lot, many, lots), wanted)
            self.same(self.keeps(is_house, many, lots), wanted is None)
            seen.add(wanted and wanted[0])
            again = draw.sample(lots, len(lots))
            self.same([bad_lot(lots=tuple(again), many=many), is_house(lots=again, many=many)], [wanted, wanted is None])
        for _, many, lots in houses(712):
            self.same([bad_lot(many, lots), is_house(many, lots)], [None, True])
        self.assertEqual(seen, {None, "lacks", "stuck"})

    def test_seven_things(self):
        """The house of seven things that no vectors tell [62]."""
        lots = seven()
        self.same([is_house(7, lots), len(lots), len(greatest(7, lots))], [True, 57, 28])
        self.same(is_house(7, lots + LINES), True)
        # vectors that are made of one another along six of the lines are free along the seventh one
        rows = [[1, 0, 0], [0, 1, 0], [1, 1, 0], [0, 0, 1], [1, 0, 1], [0, 1, 1], [1, 1, 1]]
        told = free_lots(rows)
        self.same(len([lot for lot in told if len(lot) == 3]), 29)
        self.assertEqual([lot for lot in told if len(lot) <= 2], [lot for lot in lots if len(lot) <= 2])

    def test_edges(self):
        self.same([is_house(0, []), bad_lot(0, []), is_house(0, [()]), is_house(7, [()])],
                  [False, ("lacks", ()), True, True])
        self.same([bad_lot(2, [(0, 1)]), bad_lot(2, [(), (0, 1)]), bad_lot(2, [(), (1,), (0, 1)])],
                  [("lacks", ()), ("lacks", (0,)), ("lacks", (0,))])
        self.same(bad_lot(3, [(2,), (0, 1), (), (1,), (0,)]), ("stuck", (2,), (0, 1)))
        self.same(bad_lot(4, [(), (0,), (1,), (2,), (3,), (0, 1), (2, 3)]), ("stuck", (0,), (2, 3)))
        self.same(is_house(7, every_lot(7)), True)


class OutOfHousesTest(Case):
    def test_greatest(self):
        for _, many, lots in houses(721):
            most = max(map(len, lots))
            told = self.keeps(greatest, many, lots)
            self.same(told, sorted(lot for lot in lots if len(lot) == most))
            self.same(greatest(lots=tuple(lots), many=many), told)

    def test_without_and_having(self):
        idle = 0
        for _, many, lots in houses(722):
            for thing in range(many):
                told = self.keeps(without, many, lots, thing)
                self.same(told, by_length(lot for lot in lots if thing not in lot))
                self.same(without(thing=thing, lots=tuple(lots), many=many), told)
                self.assertTrue(is_house(many, told))
                if not any(thing in lot for lot in lots):
                    idle += 1
                    self.fails(IdleThing(thing), having, many, lots, thing)
                    self.fails(IdleThing(thing), having, thing=thing, lots=lots, many=many)
                    continue
                told = self.keeps(having, many, lots, thing)
                self.same(told, by_length(tuple(part for part in lot if part != thing) for lot in lots if thing in lot))
                self.same(having(thing=thing, lots=tuple(lots), many=many), told)
                self.assertTrue(is_house(many, told))
        self.assertGreater(idle, 10)

    def test_cut(self):
        for _, many, lots in houses(723):
            for size in (0, 1, 2, 3, 7, 8, 10 ** 30):
                told = self.keeps(cut, many, lots, size)
                self.same(told, by_length(lot for lot in lots if len(lot) <= size))
                self.same(cut(size=size, lots=tuple(lots), many=many), told)
                self.assertTrue(is_house(many, told))

    def test_mirror(self):
        for _, many, lots in houses(724):
            most = [set(lot) for lot in lots if len(lot) == max(map(len, lots))]
            wanted = [lot for lot in every_lot(many) if any(not held & set(lot) for held in most)]
            told = self.keeps(mirror, many, lots)
            self.same(told, wanted)
            self.same(mirror(lots=tuple(lots), many=many), told)
            self.assertTrue(is_house(many, told))
            self.same(mirror(many, told), by_length(lots))
            turned = sorted(tuple(sorted(set(range(many)) - held)) for held in most)
            self.same(greatest(many, told), turned)

    def test_without_and_having_turned_about(self):
        """Of the mirror of the lots without a thing those having it are those of the mirror having it [63]."""
        met = 0
        for _, many, lots in houses(725):
            for thing in range(many):
                if any(thing not in lot for lot in greatest(many, lots)):
                    met += 1
                    self.same(having(many, mirror(many, without(many, lots, thing)), thing),
                              having(many, mirror(many, lots), thing))
        self.assertGreater(met, 20)

    def test_beside(self):
        found = list(houses(726, 12))
        met = 0
        for (_, many, lots), (_, more, others) in zip(found, found[::-1]):
            if many + more > 7:
                self.fails(TooMany("things", 7), beside, many, lots, more, others)
                continue
            met += 1
            told = self.keeps(beside, many, lots, more, others)
            self.same(told, by_length(lot + tuple(thing + many for thing in other) for lot in lots for other in others))
            self.same(beside(others=tuple(others), more=more, lots=tuple(lots), many=many), told)
            self.assertTrue(is_house(many + more, told))
        self.assertGreater(met, 3)
        self.same(beside(0, [()], 0, [()]), [()])
        self.same(beside(2, [(), (1,)], 1, [(0,), ()]), [(), (1,), (2,), (1, 2)])
        self.same(len(beside(3, every_lot(3), 4, every_lot(4))), 128)
        self.fails(TooMany("things", 7), beside, 4, every_lot(4), 4, every_lot(4))
        self.fails(TooMany("things", 7), beside, 1, [()], 7, [()])

    def test_rank_in(self):
        for draw, many, lots in houses(727):
            for _ in range(5):
                one, two = [set(draw.sample(range(many), draw.randint(0, many))) for _ in range(2)]
                told = {}
                for held in (one, two, one | two, one & two):
                    things = sorted(held)
                    wanted = max(len(lot) for lot in lots if set(lot) <= held)
                    self.same(self.keeps(rank_in, many, lots, things), wanted)
                    self.same(rank_in(things=tuple(things), lots=tuple(lots), many=many), wanted)
                    self.assertLessEqual(wanted, len(things))
                    told[tuple(things)] = wanted
                either, both = tuple(sorted(one | two)), tuple(sorted(one & two))
                self.assertLessEqual(told[either] + told[both], told[tuple(sorted(one))] + told[tuple(sorted(two))])


class BlendsOfLotsTest(Case):
    def test_house_blend(self):
        for draw, many, lots in list(random_lots(731, 60)) + list(houses(732, 8)):
            told = self.keeps(house_blend, many, lots)
            wanted = [([int(thing in lot) for thing in range(many)] + [many - len(lot)], 1) for lot in lots]
            self.same(told, Blend("abcdefg"[:many] + "z", wanted))
            self.same(house_blend(lots=tuple(draw.sample(lots, len(lots))), many=many), told)

    def test_crested_if_a_house(self):
        for _, many, lots in houses(733, 12):
            if len(lots) < 40:
                self.assertIs(is_crested(house_blend(many, lots)), True)
            if many > 0 and many < 6:
                self.assertIs(is_crested(greatest_blend(many, lots)), True)

    def test_just_if_a_house(self):
        """Lots with all their parts have a crested blend just if they are a house [64]."""
        seen = set()
        for _, many, lots in random_lots(734):
            held = set(lots)
            if lots and all(tuple(part for part in lot if part != thing) in held for lot in lots for thing in lot):
                told = is_house(many, lots)
                self.same(is_crested(house_blend(many, lots)), told)
                seen.add(told)
        self.assertEqual(seen, {True, False})

    def test_documents_own(self):
        # z for what lacks to the greatest length
        short = Blend("abcz", [((0, 0, 0, 2), 1), ((1, 0, 0, 1), 1), ((0, 1, 0, 1), 1), ((0, 0, 1, 1), 1),
                               ((1, 1, 0, 0), 1), ((1, 0, 1, 0), 1), ((0, 1, 1, 0), 1)])
        self.assertIs(is_dent(short, dent(short)), True)
        lots = [(), (0,), (1,), (2,), (0, 1), (0, 2), (1, 2)]
        self.assertIs(is_crested(house_blend(3, lots)), True)
        # no house: products that do not exchange letters
        lots = [(), (0,), (1,), (2,), (0, 1)]
        self.same([is_house(3, lots), is_crested(house_blend(3, lots)), exchanges(house_blend(3, lots))], [False] * 3)

    def test_greatest_blend(self):
        for _, many, lots in houses(735):
            if many == 0:
                self.fails(InvalidMany(0), greatest_blend, many, lots)
                continue
            told = self.keeps(greatest_blend, many, lots)
            most = max(map(len, lots))
            self.same(told, Blend("abcdefg"[:many], [([int(thing in lot) for thing in range(many)], 1)
                                                     for lot in lots if len(lot) == most]))
            self.same(greatest_blend(lots=tuple(lots), many=many), told)

    def test_edges(self):
        self.same([house_blend(0, [()]), house_blend(0, []), house_blend(2, []), house_blend(7, [()])],
                  [Blend("z", [((0,), 1)]), Blend("z"), Blend("abz"), Blend("abcdefgz", [((0,) * 7 + (7,), 1)])])
        self.same(house_blend(2, [(0, 1)]), Blend("abz", [((1, 1, 0), 1)]))
        self.same(len(house_blend(7, every_lot(7))), 128)
        self.same(greatest_blend(1, [()]), Blend("a", [((0,), 1)]))
        self.fails(InvalidMany(0), greatest_blend, 0, None)
        self.fails(InvalidMany(0), greatest_blend, lots=[], many=0)


class WrongTest(Case):
    def test_many(self):
        for value in NO_MANY:
            for call, rest in CALLS:
                self.fails(InvalidMany(value), call, value, None, *rest.values())
                self.fails(InvalidMany(value), call, **{name: None for name in rest}, lots=[1], many=value)
            self.fails(InvalidMany(value), beside, value, None, value, None)
            self.fails(InvalidMany(value), beside, 1, [(0,)], value, None)
            self.fails(InvalidMany(value), beside, others=[1], more=value, lots=[], many=0)

    def test_lots(self):
        for value in [value for value in ODD_VALUES if not isinstance(value, (list, tuple))] + ["01", {(): 1}]:
            for call, rest in CALLS:
                self.fails(InvalidLots(None), call, 3, value, *rest.values())
                self.fails(InvalidLots(None), call, **{name: None for name in rest}, lots=value, many=7)
            self.fails(InvalidLots(None), beside, 1, value, None, None)
            self.fails(InvalidLots(None), beside, 1, [(0,)], 1, value)
        odd = [value for value in ODD_VALUES if value not in ((), (1,))]
        for part in odd + [(3,), (0, 3), (1, 0), (0, 0), [0], [], (True,), (0, True), (Ratio(1),), (-1, 0), (1, 2, 1), (None,)]:
            for lots, at in (([part], 0), ([(), (0,), part, part], 2), (((0, 1, 2), part, (5,)), 1)):
                for call, rest in CALLS:
                    self.fails(InvalidLots(at), call, 3, lots, *rest.values())
                self.fails(InvalidLots(at), beside, 3, lots, None, None)
                self.fails(InvalidLots(at), beside, 1, [], 3, lots)
        for lots, at in (([(), ()], 1), ([(0,), (1,), (0,), (9,)], 2), (((0, 1), (), (0, 1)), 2)):
            for call, rest in CALLS:
                self.fails(InvalidLots(at), call, 3, lots, *[None for _ in rest])
                self.fails(InvalidLots(at), call, **{name: None for name in rest}, lots=lots, many=3)
        self.fails(InvalidLots(0), house_blend, 0, [(0,)])

    def test_the_rest(self):
        stuck = [(), (0,), (1,), (2,), (0, 1)]
        for lots in (TWIG, stuck):
            for value in [value for value in ODD_VALUES if exact(value) not in map(exact, (0, 1))] + [3, 4, -1, Ratio(1)]:
                for call in (without, having):
                    self.fails(InvalidThing(value), call, 3, lots, value)
                    self.fails(InvalidThing(value), call, thing=value, lots=lots, many=3)
            for value in [value for value in ODD_VALUES if exact(value) not in map(exact, (0, 1, 7, 10 ** 40))] + [-1]:
                self.fails(InvalidMany(value), cut, 3, lots, value)
                self.fails(InvalidMany(value), cut, size=value, lots=lots, many=3)
            wrong = [value for value in ODD_VALUES if exact(value) not in map(exact, ([], (), [1], (1,)))]
            for value in wrong + [[3], [0, 3], [1, 0], [0, 0], [0, True], "01", {0: 1}, [0, None], range(2)]:
                self.fails(InvalidThings(value), rank_in, 3, lots, value)
                self.fails(InvalidThings(value), rank_in, things=value, lots=lots, many=3)
        for value in (0, 1):
            self.fails(InvalidThing(value), without, 0, [()], value)
            self.fails(InvalidThing(value), having, 0, [], value)

    def test_no_house(self):
        for _, many, lots in random_lots(741, 60):
            if plain_bad(many, lots) is None or many == 0:
                continue
            for call, rest in HOUSE_CALLS:
                self.fails(NotHouse(), call, many, lots, *rest.values())
                self.fails(NotHouse(), call, lots=tuple(lots), many=many, **rest)
            for one, two in (((many, lots), (0, [()])), ((0, [()]), (many, lots)), ((many, lots), (7, [()]))):
                self.fails(NotHouse(), beside, *one, *two)
        for call, rest in HOUSE_CALLS:
            self.fails(NotHouse(), call, 3, [], *rest.values())
        self.fails(NotHouse(), having, 3, [(), (0,), (1, 2)], 0)
        self.fails(NotHouse(), having, 3, [(1,)], 0)

    def test_all_houses_of_three_things(self):
        found = [lots for many in range(4) for lots in all_houses(many)]
        # 1 of no things, 2 of one, 5 of two, 16 of three
        self.assertEqual(len(found), 24)
        for many in range(4):
            for lots in all_houses(many):
                self.assertIs(is_house(many, lots), True)
                self.same(mirror(many, mirror(many, lots)), by_length(lots))
