"""Whether blends are crested, crest papers, dents [6], [42] to [44]."""

import random
from fractions import Fraction
from itertools import combinations

from onecrest.blends import Blend
from onecrest.errors import InvalidBlend, TooMany
from onecrest.exchange import exchanges
from onecrest.hulls import is_filled
from onecrest.judge import crest_paper, dent, fault, is_crest_paper, is_crested, is_dent, judged
from onecrest.pieces import apart_way
from onecrest.quadrics import quadrics
from onecrest.ratios import Ratio
from onecrest.signs import level
from onecrest.taken import all_ways, taken
from onecrest.worths import bends_up, lean, worth
from plain import (ODD_VALUES, Case, all_counts, blends, changed_by, fraction, one_thing_changed, random_above,
                   random_blend, random_number, ratio, terms, worth_of)
from test_pieces import is_right_tree, plain_pieces
from test_quadrics import plain_table
from test_signs import digits, plain_signs
from test_squares import are_right
from test_taken import JUST_300, JUST_301, no_blends, plain_taken, plain_ways

THREE = Blend("abc", [((1, 1, 0), 1), ((1, 0, 1), 1), ((0, 1, 1), 1)])
GAP = Blend("ab", [((3, 1), 1), ((1, 3), 1)])
APART = Blend("ab", [((2, 0), 1), ((0, 2), 1)])
LOW = [Blend("ab"), Blend("a"), Blend("ab", [((0, 0), 3)]), Blend("ab", [((0, 1), 1)]),
       Blend("ab", [((0, 1), 1), ((1, 0), Ratio(1, 2))])]
CALLS = (is_crested, fault, crest_paper, dent, judged)


def plain_fault(blend):
    """The first way that is a fault, by a walk over all ways; None without one."""
    for many in range(0 if blend.degree is None else blend.degree - 1):
        for way in plain_ways(blend, many):
            amounts = plain_taken(blend, way)
            left = Blend(blend.letters, [(counts, ratio(amount)) for counts, amount in amounts.items()])
            if left.degree > 2 and len(plain_pieces(left)) > 1:
                return way
            if left.degree == 2 and plain_signs(plain_table(amounts, len(blend.letters)))[0] > 1:
                return way
    return None


def plain_lean(amounts, weights, direction):
    """Worth times bend less slope times slope, by changes letter by letter."""
    numbers = [fraction(number) for number in direction]
    first = [changed_by(amounts, place) for place in range(len(numbers))]
    slope = sum(number * worth_of(part, weights) for number, part in zip(numbers, first))
    bend = sum(number * more * worth_of(changed_by(part, place), weights)
               for number, part in zip(numbers, first) for place, more in enumerate(numbers))
    return worth_of(amounts, weights) * bend - slope ** 2


def is_right_paper(blend, value):
    """Whether a value is a crest paper, by the words of [43]."""
    wanted = [way for many in range(0 if blend.degree is None else blend.degree - 1) for way in plain_ways(blend, many)]
    if type(value) is not dict or sorted(map(repr, value)) != sorted(map(repr, wanted)):
        return False
    for way in wanted:
        left = taken(blend, way)
        if left.degree > 2:
            if not is_right_tree(left, value[way]):
                return False
            continue
        table = [[ratio(number) for number in row] for row in plain_table(terms(left), len(blend.letters))]
        if not are_right(table, value[way]) or sum(fraction(number) > 0 for number, _ in value[way]) > 1:
            return False
    return True


def is_right_dent(blend, value):
    """Whether a value is a dent, by the words of [44]."""
    if type(value) is not tuple or len(value) != 3 or type(value[0]) is not str:
        return False
    way, weights, direction = value
    if len(way) > 8 or list(way) != sorted(way) or not set(way) <= set(blend.letters):
        return False
    for part in (weights, direction):
        if type(part) not in (list, tuple) or len(part) != len(blend.letters):
            return False
        if any(type(number) not in (int, Ratio) for number in part):
            return False
    return all(fraction(number) > 0 for number in weights) and plain_lean(plain_taken(blend, way), weights, direction) > 0


def product_of_sums(draw, letters, many):
    """A product of random sums of letters: such blends are crested."""
    found = Blend(letters, [((0,) * len(letters), random_above(draw))])
    for _ in range(many):
        held = draw.sample(range(len(letters)), draw.randint(1, len(letters)))
        found = found * Blend(letters, [([int(at == place) for at in range(len(letters))], random_above(draw))
                                        for place in held])
    return found


def lot_blend(draw, many, size, some=False):
    """All lots of a size, each thing with its weight: crested; of some of these lots: seldom crested."""
    letters = "abcdefgh"[:many]
    weights = [random_above(draw) for _ in letters]
    entries = []
    for lot in combinations(range(many), size):
        amount = Fraction(1)
        for thing in lot:
            amount *= fraction(weights[thing])
        entries.append(([int(at in lot) for at in range(many)], ratio(amount)))
    return Blend(letters, draw.sample(entries, draw.randint(1, len(entries))) if some else entries)


def crested_blends(seed, many=20):
    draw = random.Random(seed)
    found = []
    for _ in range(many):
        found.append(product_of_sums(draw, "abcd"[:draw.randint(1, 4)], draw.randint(0, 4)))
        size = draw.randint(1, 5)
        found.append(lot_blend(draw, size, draw.randint(0, size)))
    return found


def mixed_blends(seed, many=25):
    """Crested ones, ones that are nearly so, and random ones."""
    draw = random.Random(seed)
    found = crested_blends(seed, many) + blends(seed, many, most=4) + LOW + [THREE, GAP, APART]
    for _ in range(many):
        size = draw.randint(2, 5)
        found.append(lot_blend(draw, size, draw.randint(1, size - 1), some=True))
        blend = product_of_sums(draw, "abc"[:draw.randint(2, 3)], draw.randint(2, 4))
        entries = blend.entries()
        at = draw.randrange(len(entries))
        entries[at] = (entries[at][0], entries[at][1] * random_above(draw))
        found.append(Blend(blend.letters, entries))
        found.append(random_blend(draw, "ab", draw.randint(2, 5)))
        degree = draw.randint(2, 4)
        one, two = [random_blend(draw, letters, degree, 3).widened("abcd") for letters in ("ac", "bd")]
        found.append((one + two) * product_of_sums(draw, "abcd", draw.randint(0, 1)))
    return found


class JudgeTest(Case):
    def test_document(self):
        self.same((is_crested(THREE), fault(GAP), is_dent(GAP, ("ab", [1, 1], [1, -1])),
                   is_dent(THREE, ("", [1, 1, 1], [1, -1, 0]))), (True, "ab", True, False))

    def test_overview(self):
        self.assertIs(is_crested(THREE), True)
        self.assertIs(is_dent(APART, ("", [1, 1], [1, -1])), True)
        self.same([is_crested(APART), fault(APART), is_crested(GAP)], [False, "", False])

    def test_against_the_plain_walk(self):
        seen = set()
        for blend in mixed_blends(421):
            wanted = plain_fault(blend)
            told = self.keeps(fault, blend)
            self.same(told, wanted)
            self.same(self.keeps(is_crested, blend), wanted is None)
            self.same([fault(blend=blend), is_crested(blend=blend)], [wanted, wanted is None])
            seen.add(None if wanted is None else len(wanted))
        self.assertLessEqual({None, 0, 1, 2}, seen)

    def test_what_is_crested(self):
        for blend in crested_blends(422):
            self.assertIs(is_crested(blend), True, blend)
            self.assertTrue(all(is_crested(taken(blend, way)) for way in all_ways(blend)))
            self.assertTrue(exchanges(blend) and is_filled(blend))
            self.assertIsNone(apart_way(blend))

    def test_crested_bends_up_nowhere(self):
        """And each one that is not bends up at its dent: the middle [6]."""
        draw = random.Random(423)
        for blend in mixed_blends(424, 12):
            if is_crested(blend):
                for way in all_ways(blend)[:8]:
                    weights = [random_above(draw) for _ in blend.letters]
                    direction = [random_number(draw) for _ in blend.letters]
                    self.assertFalse(bends_up(taken(blend, way), weights, direction))

    def test_just_one_of_both(self):
        for blend in mixed_blends(425):
            paper, told = crest_paper(blend), dent(blend)
            self.assertEqual(paper is None, plain_fault(blend) is not None)
            self.assertNotEqual(paper is None, told is None)
            self.same(judged(blend), ("dented", told) if paper is None else ("crested", paper))
            self.same(judged(blend=blend), self.keeps(judged, blend))

    def test_low_degrees(self):
        for blend in LOW:
            self.same([is_crested(blend), fault(blend), crest_paper(blend), dent(blend), judged(blend)],
                      [True, None, {}, None, ("crested", {})])
            self.same([is_crest_paper(blend, {}), is_crest_paper(blend, {"": []}), is_crest_paper(blend, None)],
                      [True, False, False])
        one = Blend("abc", [((0, 3, 0), 2)])
        self.same(list(crest_paper(one)), ["", "b"])
        self.same(crest_paper(one)[""], [])

    def test_wrong_blends(self):
        for value in no_blends():
            for call in CALLS:
                self.fails(InvalidBlend(value), call, value)
                self.fails(InvalidBlend(value), call, blend=value)
            for call in (is_crest_paper, is_dent):
                self.fails(InvalidBlend(value), call, value, {})
                self.fails(InvalidBlend(value), call, value=None, blend=value)

    def test_too_many_ways(self):
        just, over = [Blend("abcdefgh", [(one, 1) for one in counts]) for counts in (JUST_300, JUST_301)]
        self.same(fault(just), plain_fault(just))
        self.assertIs(is_crest_paper(just, {}), False)
        every = Blend("abcdefgh", [(one, 1) for one in all_counts(8, 8)[:300]])
        for blend in (over, every):
            for call in CALLS:
                self.fails(TooMany("ways", 300), call, blend)
            for value in ({}, None, 5):
                self.fails(TooMany("ways", 300), is_crest_paper, blend, value)
            for value in ODD_VALUES:
                self.assertIs(is_dent(blend, value), False)
        # a dent is asked for itself alone: this one bends up, whatever its other ways
        value = ("aabb", [1] * 8, [1, -1, 0, 0, 0, 0, 0, 0])
        wide = Blend("abcdefgh", [*over.entries(), ((4, 4, 0, 0, 0, 0, 0, 0), 1), ((2, 6, 0, 0, 0, 0, 0, 0), 9),
                                  ((6, 2, 0, 0, 0, 0, 0, 0), 9)])
        self.fails(TooMany("ways", 300), fault, wide)
        self.assertIs(is_right_dent(wide, value), True)
        self.assertIs(is_dent(wide, value), True)


class CrestPaperTest(Case):
    def test_papers(self):
        seen = set()
        for blend in mixed_blends(431):
            told = self.keeps(crest_paper, blend)
            seen.add(told is None)
            if told is None:
                continue
            self.same(list(told), all_ways(blend))
            self.assertTrue(is_right_paper(blend, told))
            self.assertIs(is_crest_paper(blend, told), True)
            turned = {way: tuple(told[way]) for way in reversed(list(told))}
            self.assertIs(is_crest_paper(value=turned, blend=blend), True)
            self.same(crest_paper(blend=blend), told)
        self.assertEqual(seen, {True, False})

    def test_one_thing_changed(self):
        for blend in (THREE, THREE * Blend("abc", [((1, 0, 0), 1), ((0, 0, 1), 2)]), Blend("a", [((4,), 1)]),
                      Blend("ab", [((1, 1), 1)]), Blend("ab", [((1, 2), 1)])):
            for value in one_thing_changed(crest_paper(blend)):
                self.same(is_crest_paper(blend, value), is_right_paper(blend, value))

    def test_wrong_ones(self):
        cube = THREE * Blend("abc", [((1, 0, 0), 1), ((0, 0, 1), 2)])
        paper = crest_paper(cube)
        for other in mixed_blends(432, 6):
            value = crest_paper(other)
            self.same(is_crest_paper(cube, value), is_right_paper(cube, value))
            self.same(is_crest_paper(other, paper), is_right_paper(other, paper))
        # all squares are there, but two are above: no paper, though they are squares
        for blend in (APART, Blend("ab", [((2, 0), 1), ((1, 1), 1), ((0, 2), 1)])):
            self.assertIs(is_crest_paper(blend, {"": [(2, [1, 0]), (2, [0, 1])]}), False)
        self.assertIs(is_crest_paper(APART, {"": [(1, [1, 1]), (1, [1, -1])]}), False)
        self.assertIs(is_crest_paper(Blend("ab", [((1, 1), 1)]), {"": [(Ratio(1, 4), [1, 1]), (Ratio(-1, 4), [1, -1])]}),
                      False)
        self.assertIs(is_crest_paper(Blend("ab", [((1, 1), 1)]), {"": [(Ratio(1, 2), [1, 1]), (Ratio(-1, 2), [1, -1])]}),
                      True)
        self.assertIs(is_crest_paper(cube, {**paper, "d": []}), False)
        self.assertIs(is_crest_paper(cube, {**paper, "aa": []}), False)
        self.assertIs(is_crest_paper(cube, list(paper.items())), False)
        self.assertIs(is_crest_paper(cube, {**paper, "": paper["a"], "a": paper[""]}), False)

    def test_judge(self):
        for blend in (THREE, GAP, APART):
            self.judges(is_crest_paper, [], blend)
        for blend in LOW:
            self.judges(is_crest_paper, [{}], blend)


class DentTest(Case):
    def test_dents(self):
        seen = set()
        for blend in mixed_blends(441):
            told = self.keeps(dent, blend)
            seen.add(None if told is None else len(told[0]) < blend.degree - 2)
            if told is None:
                continue
            self.assertIs(type(told), tuple)
            self.assertEqual([type(part) for part in told], [str, list, list])
            self.assertTrue(all(type(number) is Ratio for part in told[1:] for number in part))
            self.assertTrue(is_right_dent(blend, told), (blend, told))
            self.assertIs(is_dent(blend, told), True)
            self.assertIs(is_dent(value=(told[0], tuple(told[1]), tuple(told[2])), blend=blend), True)
            self.assertIs(is_dent(blend, list(told)), False)
            self.same(dent(blend=blend), told)
        self.assertEqual(seen, {None, True, False})

    def test_documents_own(self):
        """At weights that are all 1: a sum of two blends without a common letter; a level direction of a quadric."""
        met = set()
        for blend in mixed_blends(442):
            way = fault(blend)
            if way is None:
                continue
            left, ones = taken(blend, way), [1] * len(blend.letters)
            if left.degree == 2:
                direction = level(quadrics(blend)[way], ones)
            else:
                held = plain_pieces(left)[0]
                parts = [{counts: amount for counts, amount in terms(left).items()
                          if any(count and letter in held for letter, count in zip(left.letters, counts)) is first}
                         for first in (True, False)]
                p, q = [sum(part.values()) for part in parts]
                direction = [ratio(q if letter in held else -p if letter in left.bears() else 0)
                             for letter in left.letters]
                m = left.degree
                self.same(lean(left, ones, direction), ratio((p + q) * m * (m - 1) * p * q * (p + q)))
            met.add(left.degree > 2)
            self.assertIs(is_dent(blend, (way, ones, direction)), True)
        self.assertEqual(met, {True, False})

    def test_great_numbers(self):
        """However many products with numbers of six digits, none that is told has more than 2,000 digits [2]."""
        draw = random.Random(443)

        def six():
            return Ratio(draw.randint(900000, 999999), draw.randint(900000, 999999))

        first = [(*counts, 0, 0, 0, 0) for counts in all_counts(4, 7)]
        second = [(0, 0, 0, 0, *counts) for counts in all_counts(4, 7)]
        wide = Blend("abcdefgh", [(counts, six()) for counts in first + second])
        table = Blend("abcdefgh", [(counts, six()) for counts in all_counts(8, 2)])
        apart = Blend("abcdefgh", [((2, 1, 0, 0, 0, 0, 0, 0), six()), ((0, 0, 0, 1, 2, 0, 0, 0), six())])
        # numbers made of three others: their sum has far more digits, but a dent need not tell it
        long = Blend("abcdefgh", [(counts, six() * six() * six()) for counts in first + second])
        self.assertGreater(digits([worth(long, [1] * 8)]), 2000)
        for blend in (wide, table, apart, long):
            told = dent(blend)
            self.assertTrue(is_right_dent(blend, told))
            self.assertLessEqual(max(digits(told[1]), digits(told[2])), 2000)

    def test_judge(self):
        draw = random.Random(444)
        for blend in mixed_blends(445, 8):
            for way in ("", "a", "b", "ab", "aab", "ba", "z", "aaaaaaaaa"):
                value = (way, [random_number(draw, -1, 5) for _ in blend.letters],
                         [random_number(draw) for _ in blend.letters])
                self.same(is_dent(blend, value), is_right_dent(blend, value))
        for blend in (GAP, APART, Blend("abc", [((0, 2, 0), 1), ((0, 0, 2), 3)])):
            for value in one_thing_changed(dent(blend)):
                self.same(is_dent(blend, value), is_right_dent(blend, value))
            self.judges(is_dent, [], blend)
        for blend in LOW + [THREE]:
            self.judges(is_dent, [], blend)
        self.same([is_dent(APART, ("", [1, 1], [1, 1])), is_dent(APART, ("", [1, 1], [1, -1])),
                   is_dent(APART, ("", [1, 0], [1, -1])), is_dent(APART, ("a", [1, 1], [1, -1])),
                   is_dent(GAP, ("aabb", [1, 1], [1, -1])), is_dent(APART, ("", [1, True], [1, -1]))],
                  [False, True, False, False, False, False])
