"""Least weights, least worth, once slack [88]."""

import random
from fractions import Fraction
from math import factorial, prod

from onecrest.blends import Blend
from onecrest.errors import InvalidBlend, InvalidWeights, NotLeast, UnlikeDegree
from onecrest.judge import is_crested
from onecrest.least import is_least, least_worth, once_slack
from onecrest.permanents import forms_blend
from onecrest.ratios import Ratio
from plain import Case, all_counts, blends, changed_by, fraction, random_above, ratio, terms, worth_of
from test_chances import NO_WEIGHTS, WEB
from test_permanents import even_rows
from test_taken import no_blends

CALLS = (is_least, least_worth, once_slack)
SQUARE = Blend("ab", [((2, 0), 1), ((1, 1), 5), ((0, 2), 4)])
CUBE = Blend("abc", [((1, 1, 1), 6), ((3, 0, 0), 1), ((0, 3, 0), 1), ((0, 0, 3), 1)])
UNLIKE = [Blend("abc"), Blend("abc", [((0, 0, 0), 1)]), WEB, Blend("abc", [((2, 1, 1), 1)])]


def plain_parts(blend, weights):
    return [fraction(weight) * worth_of(changed_by(terms(blend), place), weights) for place, weight in enumerate(weights)]


def least_pairs(seed):
    """Blends with weights that are least for them."""
    draw = random.Random(seed)
    found = [(SQUARE, [2, 1]), (CUBE, [1, 1, 1]), (CUBE, [Ratio(2, 3)] * 3), (Blend("a", [((1,), Ratio(5, 3))]), [7])]
    for rows in even_rows(seed, 8):
        # the blend of even rows has least weights 1; with each letter so many times what it was, one over this
        times = [random_above(draw) for _ in rows]
        weights = [Ratio(1).over(number) for number in times]
        wide = [[ratio(fraction(one) * fraction(two)) for one, two in zip(row, times)] for row in rows]
        found.append((forms_blend(wide), weights))
    return found


class LeastTest(Case):
    def test_document(self):
        self.same([is_least(SQUARE, [1, 1]), is_least(SQUARE, [2, 1]), least_worth(SQUARE, [2, 1]),
                   once_slack(SQUARE, [2, 1])], [False, True, Ratio(9, 1), Ratio(1, 2)])

    def test_least_weights(self):
        for blend, weights in least_pairs(881):
            self.assertEqual(len(set(plain_parts(blend, weights))), 1)
            size = len(weights)
            worth = worth_of(terms(blend), weights) / prod(map(fraction, weights))
            once = fraction(blend.amount([1] * size)) - Fraction(factorial(size), size ** size) * worth
            wanted = [True, ratio(worth), ratio(once)]
            self.same([self.keeps(call, blend, weights) for call in CALLS], wanted)
            self.same([call(weights=tuple(weights), blend=blend) for call in CALLS], wanted)
            # weights that are all so many times what they were are least, too, with the same worth
            self.same([call(blend, [Ratio(7, 3) * weight for weight in weights]) for call in CALLS], wanted)

    def test_no_greater_than_elsewhere(self):
        draw = random.Random(882)
        for blend, weights in least_pairs(883):
            told = fraction(least_worth(blend, weights))
            for _ in range(5):
                other = [random_above(draw) for _ in weights]
                self.assertLessEqual(told, worth_of(terms(blend), other) / prod(map(fraction, other)))

    def test_crested_ones_have_no_slack_below(self):
        for blend, weights in least_pairs(884):
            if len(weights) < 5 and is_crested(blend):
                self.assertGreaterEqual(once_slack(blend, weights).sign, 0)
        apart = Blend("ab", [((2, 0), 1), ((0, 2), 1)])
        self.same([is_crested(apart), is_least(apart, [1, 1]), once_slack(apart, [1, 1])], [False, True, Ratio(-1)])

    def test_all_kinds(self):
        draw = random.Random(885)
        seen = set()
        for blend in blends(886, 120):
            weights = [random_above(draw) for _ in blend.letters]
            if blend.degree != len(weights):
                for call in CALLS:
                    self.fails(UnlikeDegree(), call, blend, weights)
                continue
            even = len(set(plain_parts(blend, weights))) == 1
            seen.add(even)
            self.same(is_least(blend, weights), even)
            if not even:
                self.fails(NotLeast(), least_worth, blend, weights)
                self.fails(NotLeast(), once_slack, blend, weights)
        self.assertEqual(seen, {True, False})

    def test_edges(self):
        for blend in UNLIKE:
            for call in CALLS:
                self.fails(UnlikeDegree(), call, blend, [1, 1, 1])
                self.fails(InvalidWeights([1, 1]), call, blend, [1, 1])
        # no weights are least where the letters do not all stand
        self.same([is_least(Blend("ab", [((2, 0), 1)]), [1, 1]), is_least(Blend("ab", [((2, 0), 1)]), [1, 99])],
                  [False, False])
        eight = Blend("abcdefgh", [(counts, 1) for counts in all_counts(8, 8) if sorted(counts) in (
            [1] * 8, [0] * 7 + [8])])
        self.same([is_least(eight, [1] * 8), least_worth(eight, [1] * 8), once_slack(eight, [1] * 8).sign],
                  [True, Ratio(9), 1])

    def test_wrong(self):
        for call in CALLS:
            for value in no_blends():
                self.fails(InvalidBlend(value), call, value, None)
                self.fails(InvalidBlend(value), call, weights=[1], blend=value)
            for value in NO_WEIGHTS:
                self.fails(InvalidWeights(value), call, CUBE, value)
                self.fails(InvalidWeights(value), call, weights=value, blend=WEB)
