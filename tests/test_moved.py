"""One amount moved, stretches, edges [45], [46]."""

import random
from fractions import Fraction

from onecrest.blends import Blend
from onecrest.errors import (InvalidBlend, InvalidCounts, InvalidMany, InvalidNumber, InvalidNumbers, InvalidSpan, NoEdge,
                             TooMany)
from onecrest.judge import is_crested
from onecrest.moved import crested_at, narrowed, with_amount, without
from onecrest.ratios import Ratio
from plain import ODD_VALUES, Case, all_counts, blends, exact, fraction, random_above, ratio, terms
from test_judge import mixed_blends, plain_fault
from test_taken import JUST_300, JUST_301, no_blends

CONIC = Blend("ab", [((2, 0), 1), ((1, 1), 1), ((0, 2), 1)])
NO_COUNTS = [value for value in ODD_VALUES] + [(1,), (1, 0), (2, 1), (1, 1, 0), (3, -1), (True, 1), [1, True], (1, None),
                                               "11", {0: 1, 1: 1}, (Ratio(1), 1), (10 ** 20, 0)]
NO_ABOVE = [value for value in ODD_VALUES if exact(value) not in map(exact, (1, 7, 10 ** 40, Ratio(1, 2), Ratio(2)))] + [
    Ratio(-1, 9), "1"]
LONG = [1] * 21


def full(many):
    """A blend of so many products of eight letters."""
    return Blend("abcdefgh", [(counts, 1) for counts in all_counts(8, 4)[:many]])


class MovedTest(Case):
    def test_with_amount(self):
        draw = random.Random(451)
        for blend in blends(452, 50):
            for counts in draw.sample(all_counts(len(blend.letters), blend.degree), 1) + [blend.entries()[0][0]]:
                number = random_above(draw)
                told = self.keeps(with_amount, blend, list(counts), number)
                wanted = terms(blend)
                wanted[tuple(counts)] = fraction(number)
                self.assertEqual((told.letters, terms(told)), (blend.letters, wanted))
                self.same(with_amount(number=number, counts=tuple(counts), blend=blend), told)
                old = blend.amount(counts)
                back = with_amount(told, counts, old) if old.sign else without(told, counts)
                self.same(back, blend)

    def test_without(self):
        for blend in blends(453, 50):
            for counts, amount in blend.entries():
                told = self.keeps(without, blend, list(counts))
                wanted = terms(blend)
                del wanted[counts]
                self.assertEqual((told.letters, terms(told)), (blend.letters, wanted))
                self.same(without(counts=counts, blend=blend), told)
                if len(blend) > 1:
                    self.same(with_amount(told, counts, amount), blend)

    def test_edges(self):
        nought = Blend("ab")
        self.same(without(Blend("ab", [((1, 1), 2)]), (1, 1)), nought)
        for counts in ((0, 0), (8, 0), (3, 2)):
            self.same(with_amount(nought, counts, Ratio(1, 2)), Blend("ab", [(counts, Ratio(1, 2))]))
            self.fails(InvalidCounts(counts), without, nought, counts)
        for counts in ((9, 0), (5, 4)):
            self.fails(InvalidCounts(counts), with_amount, nought, counts, 1)
        self.same(with_amount(Blend("ab", [((0, 0), 1)]), [0, 0], 5), Blend("ab", [((0, 0), 5)]))
        self.same(with_amount(CONIC, (1, 1), 10 ** 40).amount((1, 1)), Ratio(10 ** 40))

    def test_too_many_entries(self):
        every = all_counts(8, 4)
        self.same(len(with_amount(full(299), every[300], 2)), 300)
        self.same(with_amount(full(300), every[299], 2).amount(every[299]), Ratio(2))
        self.fails(TooMany("entries", 300), with_amount, full(300), every[300], 1)
        self.fails(InvalidNumber(0), with_amount, full(300), every[300], 0)
        self.same(len(without(full(300), every[0])), 299)

    def test_wrong(self):
        for value in no_blends():
            self.fails(InvalidBlend(value), with_amount, value, None, 0)
            self.fails(InvalidBlend(value), with_amount, number=0, counts=None, blend=value)
            self.fails(InvalidBlend(value), without, value, None)
            self.fails(InvalidBlend(value), without, counts=None, blend=value)
        for value in NO_COUNTS:
            self.fails(InvalidCounts(value), with_amount, CONIC, value, 0)
            self.fails(InvalidCounts(value), with_amount, number=None, counts=value, blend=CONIC)
            self.fails(InvalidCounts(value), without, CONIC, value)
            self.fails(InvalidCounts(value), without, counts=value, blend=CONIC)
        self.fails(InvalidCounts((1, 1)), without, Blend("ab", [((2, 0), 1)]), (1, 1))
        for value in NO_ABOVE:
            self.fails(InvalidNumber(value), with_amount, CONIC, (1, 1), value)
            self.fails(InvalidNumber(value), with_amount, number=value, counts=[0, 2], blend=CONIC)


class CrestedAtTest(Case):
    def test_document(self):
        self.same((crested_at(CONIC, (1, 1), [1, 2, 3]), narrowed(CONIC, (1, 1), 1, 3, 2)),
                  ([False, True, True], (Ratio(3, 2), Ratio(2, 1))))

    def test_one_stretch(self):
        """At many numbers, the crested ones stand side by side: one stretch [45]."""
        draw = random.Random(461)
        seen = set()
        for blend in mixed_blends(462, 12):
            every = all_counts(len(blend.letters), 0 if blend.is_nought else blend.degree)
            for counts in draw.sample(every, min(2, len(every))):
                numbers = sorted([random_above(draw) for _ in range(10)] + [Ratio(1, 50), 60], key=fraction)
                told = self.keeps(crested_at, blend, counts, numbers)
                self.assertEqual(len(told), len(numbers))
                self.assertTrue(all(type(part) is bool for part in told))
                for part, number in list(zip(told, numbers))[::4]:
                    self.same(part, plain_fault(with_amount(blend, counts, number)) is None)
                turns = sum(one != two for one, two in zip(told, told[1:]))
                self.assertTrue(turns < 2 or turns == 2 and not told[0], (blend, counts, told))
                seen.add((told[0], told[-1]))
                order = draw.sample(range(len(numbers)), len(numbers))
                self.same(crested_at(numbers=tuple(numbers[at] for at in order), counts=list(counts), blend=blend),
                          [told[at] for at in order])
        self.assertGreaterEqual(len(seen), 3)

    def test_root_of_twelve(self):
        """Of a a + t a b + 3 b b the end is the root of 12."""
        blend = Blend("ab", [((2, 0), 1), ((0, 2), 3)])
        numbers = [1, Ratio(34641, 10000), Ratio(346410161, 10 ** 8), Ratio(346410162, 10 ** 8), Ratio(34642, 10000), 9]
        self.same(crested_at(blend, (1, 1), numbers), [False, False, False, True, True, True])
        low, high = narrowed(blend, (1, 1), 3, 4, 20)
        self.assertTrue(fraction(low) ** 2 < 12 < fraction(high) ** 2)
        self.same(high - low, Ratio(1, 2 ** 20))

    def test_an_end_that_is_met(self):
        self.same(crested_at(CONIC, (2, 0), [Ratio(1, 8), Ratio(1, 4), Ratio(251, 1000), 5]), [True, True, False, False])
        self.same(narrowed(CONIC, (2, 0), Ratio(1, 8), Ratio(3, 8), 1), (Ratio(1, 4), Ratio(3, 8)))
        self.same(narrowed(CONIC, (1, 1), 1, 3, 1), (Ratio(1), Ratio(2)))

    def test_edges(self):
        nought = Blend("ab")
        self.same(crested_at(nought, (3, 0), [1, 2]), [True, True])
        self.same(crested_at(nought, (2, 2), [1]), [True])
        self.same(crested_at(CONIC, (1, 1), []), [])
        self.same(crested_at(CONIC, (1, 1), ()), [])
        self.same(crested_at(CONIC, (1, 1), [1, 2] * 10), [False, True] * 10)
        self.same(crested_at(Blend("ab", [((2, 0), 1)]), (0, 2), [1, Ratio(1, 9)]), [False, False])

    def test_too_many(self):
        every = all_counts(8, 4)
        for call, rest in ((crested_at, ([1],)), (crested_at, ([],)), (narrowed, (1, 2, 0))):
            self.fails(TooMany("entries", 300), call, full(300), every[300], *rest)
        just, over = [Blend("abcdefgh", [(one, 1) for one in counts]) for counts in (JUST_300, JUST_301)]
        for counts, blend in ((JUST_301, over), (JUST_301, without(over, JUST_301[0]))):
            self.fails(TooMany("ways", 300), crested_at, blend, counts[0], [1])
            self.fails(TooMany("ways", 300), crested_at, blend, counts[0], [])
            self.fails(TooMany("ways", 300), narrowed, blend, counts[0], 1, 2, 3)
        self.same(crested_at(just, JUST_300[0], [1]), [is_crested(just)])
        self.same(crested_at(without(just, JUST_300[0]), JUST_300[0], []), [])
        self.fails(NoEdge(), narrowed, just, JUST_300[0], 1, 2, 3)

    def test_wrong(self):
        for value in no_blends():
            self.fails(InvalidBlend(value), crested_at, value, None, None)
            self.fails(InvalidBlend(value), crested_at, numbers=0, counts=None, blend=value)
        for value in NO_COUNTS:
            self.fails(InvalidCounts(value), crested_at, CONIC, value, None)
            self.fails(InvalidCounts(value), crested_at, numbers=[0], counts=value, blend=CONIC)
        wrong = [value for value in ODD_VALUES if exact(value) not in map(exact, ([], (), [1], (1,), (1, 2, 3)))]
        for value in wrong + [LONG, [1] * 30, [1, 0], [0], [1, -1], [Ratio(0)], [1, True], [1, None], ["1"], [1, [1]],
                              {1: 1}, range(1, 3), LONG + [0]]:
            self.fails(InvalidNumbers(value), crested_at, CONIC, (1, 1), value)
            self.fails(InvalidNumbers(value), crested_at, numbers=value, counts=[1, 1], blend=CONIC)
        over = Blend("abcdefgh", [(one, 1) for one in JUST_301])
        self.fails(InvalidNumbers(LONG), crested_at, over, JUST_301[0], LONG)


class NarrowedTest(Case):
    def test_step_by_step(self):
        draw = random.Random(471)
        met = 0
        for blend in mixed_blends(472, 30):
            every = all_counts(len(blend.letters), 0 if blend.is_nought else blend.degree)
            counts = draw.choice(every)
            low, high = Ratio(1, draw.randint(1, 40)), random_above(draw) + 1
            ends = crested_at(blend, counts, [low, high])
            if ends[0] == ends[1]:
                self.fails(NoEdge(), narrowed, blend, counts, low, high, 3)
                continue
            met += 1
            one, two = Fraction(fraction(low)), Fraction(fraction(high))
            for many in range(5):
                told = self.keeps(narrowed, blend, counts, low, high, many)
                self.same(told, (ratio(one), ratio(two)))
                self.same(narrowed(many=many, high=high, low=low, counts=list(counts), blend=blend), told)
                middle = (one + two) / 2
                like_low = crested_at(blend, counts, [ratio(middle)])[0] == ends[0]
                one, two = (middle, two) if like_low else (one, middle)
        self.assertGreater(met, 5)

    def test_edges(self):
        self.same(narrowed(CONIC, (1, 1), 1, 3, 0), (Ratio(1), Ratio(3)))
        told = narrowed(CONIC, (1, 1), 1, Ratio(5, 2), 20)
        self.same(told[1] - told[0], Ratio(3, 2 ** 21))
        self.assertTrue(told[0].is_below(2) and Ratio(2).is_at_most(told[1]))
        self.fails(NoEdge(), narrowed, CONIC, (1, 1), 2, 3, 4)
        self.fails(NoEdge(), narrowed, CONIC, (1, 1), Ratio(1, 2), 1, 4)
        self.fails(NoEdge(), narrowed, Blend("ab"), (1, 1), 1, 2, 0)

    def test_wrong(self):
        for value in no_blends():
            self.fails(InvalidBlend(value), narrowed, value, None, 0, 0, -1)
            self.fails(InvalidBlend(value), narrowed, many=None, high=0, low=0, counts=None, blend=value)
        for value in NO_COUNTS:
            self.fails(InvalidCounts(value), narrowed, CONIC, value, 0, 0, -1)
            self.fails(InvalidCounts(value), narrowed, many=21, high=1, low=3, counts=value, blend=CONIC)
        for value in NO_ABOVE:
            self.fails(InvalidNumber(value), narrowed, CONIC, (1, 1), value, None, -1)
            self.fails(InvalidNumber(value), narrowed, many=None, high=3, low=value, counts=(1, 1), blend=CONIC)
            self.fails(InvalidNumber(value), narrowed, CONIC, (1, 1), 5, value, -1)
            self.fails(InvalidNumber(value), narrowed, many=None, high=value, low=3, counts=(1, 1), blend=CONIC)
        wrong = [value for value in ODD_VALUES if exact(value) not in map(exact, (0, 1, 7))]
        for value in wrong + [21, 22, 1000, Ratio(3)]:
            self.fails(InvalidMany(value), narrowed, CONIC, (1, 1), 3, 1, value)
            self.fails(InvalidMany(value), narrowed, many=value, high=2, low=2, counts=(1, 1), blend=CONIC)
        over = Blend("abcdefgh", [(one, 1) for one in JUST_301])
        for low, high in ((3, 1), (2, 2), (2, Ratio(2)), (Ratio(4, 2), 2), (Ratio(1, 2), Ratio(1, 3))):
            self.fails(InvalidSpan(low, high), narrowed, CONIC, (1, 1), low, high, 20)
            self.fails(InvalidSpan(low, high), narrowed, many=0, high=high, low=low, counts=[2, 0], blend=CONIC)
            self.fails(InvalidSpan(low, high), narrowed, over, JUST_301[0], low, high, 0)
            self.fails(InvalidSpan(low, high), narrowed, full(300), all_counts(8, 4)[300], low, high, 0)
