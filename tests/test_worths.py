"""Worth, slope, bend, lean, along a line, polar numbers [6], [15], [16]."""

import random
from fractions import Fraction
from itertools import permutations

from onecrest.blends import Blend
from onecrest.errors import InvalidBlend, InvalidDirection, InvalidRows, InvalidWeights
from onecrest.ratios import Ratio
from onecrest.taken import taken
from onecrest.worths import along, bend, bends_up, lean, polar, slope, worth
from plain import (ODD_VALUES, Case, blends, changed_by, fraction, random_above, random_blend, random_number, ratio,
                   terms, worth_of)

APART = Blend("ab", [((2, 0), 1), ((0, 2), 1)])
LINES = (slope, bend, lean, bends_up, along)
WRONG = [value for value in ODD_VALUES if value not in ([1], (1,))] + [
    [1, True], [True, 1], [1, None], ["1", "1"], [1], [1, 1, 1], (1,), (1, 1, 1), "11", {"a": 1, "b": 1}, [[1], [1]],
    [Ratio(1, 2)], [Ratio(1, 2), "a"], range(2)]


def cases(seed, many=60):
    """Random blends with weights and a direction."""
    draw = random.Random(seed)
    for _ in range(many):
        blend = random_blend(draw)
        yield blend, [random_above(draw) for _ in blend.letters], [random_number(draw) for _ in blend.letters]


class LinesTest(Case):
    def test_document(self):
        told = [worth(APART, [1, 1]), along(APART, [1, 1], [1, -1]), lean(APART, [1, 1], [1, -1]),
                bends_up(APART, [1, 1], [1, 1])]
        self.same(told, [Ratio(2, 1), [Ratio(2, 1), Ratio(0, 1), Ratio(2, 1)], Ratio(8, 1), False])

    def test_overview(self):
        pair = ([1, 1], [1, -1])
        self.same([worth(APART, [1, 1]), slope(APART, *pair), bend(APART, *pair)], [Ratio(2), Ratio(0), Ratio(4)])
        self.assertIs(bends_up(APART, *pair), True)
        three = Blend("abc", [((1, 1, 0), 1), ((1, 0, 1), 1), ((0, 1, 1), 1)])
        draw = random.Random(1)
        for _ in range(100):
            weights = [random_above(draw) for _ in "abc"]
            self.assertIs(bends_up(three, weights, [random_number(draw) for _ in "abc"]), False)

    def test_worth(self):
        for blend, weights, _ in cases(2):
            self.same(self.keeps(worth, blend, weights), ratio(worth_of(terms(blend), weights)))
            self.same(worth(weights=tuple(weights), blend=blend), worth(blend, weights))

    def test_along(self):
        for blend, weights, direction in cases(3):
            line = self.keeps(along, blend, weights, direction)
            self.assertIs(type(line), list)
            self.assertEqual(len(line), blend.degree + 1)
            self.assertTrue(all(type(number) is Ratio for number in line))
            for t in (0, 1, -1, 2, -3, Fraction(1, 2), Fraction(-7, 5), 100, 31, 57):
                moved = [fraction(weight) + t * fraction(change) for weight, change in zip(weights, direction)]
                told = sum(fraction(number) * t ** power for power, number in enumerate(line))
                self.assertEqual(told, worth_of(terms(blend), moved))
            self.same(along(direction=tuple(direction), blend=blend, weights=tuple(weights)), line)

    def test_slope_and_bend(self):
        for blend, weights, direction in cases(4):
            amounts, changes = terms(blend), [fraction(number) for number in direction]
            first = sum(change * worth_of(changed_by(amounts, at), weights) for at, change in enumerate(changes))
            second = sum(change * more * worth_of(changed_by(changed_by(amounts, at), place), weights)
                         for at, change in enumerate(changes) for place, more in enumerate(changes))
            whole = worth_of(amounts, weights)
            self.same(slope(blend, weights, direction), ratio(first))
            self.same(bend(blend, weights, direction), ratio(second))
            self.same(lean(blend, weights, direction), ratio(whole * second - first * first))
            self.assertIs(bends_up(blend, weights, direction), whole * second > first * first)

    def test_facts(self):
        for blend, weights, direction in cases(5):
            parts = [worth(taken(blend, letter), weights) * change for letter, change in zip(blend.letters, direction)]
            self.same(slope(blend, weights, direction), Ratio.total(parts))
            self.same(slope(blend, weights, weights), worth(blend, weights) * blend.degree)

    def test_both_kinds_seen(self):
        told = {bends_up(*case) for case in cases(6, 200)}
        self.assertEqual(told, {True, False})
        # a lean of just 0 does not bend up
        line = Blend("ab", [((1, 0), 1), ((0, 1), 1)])
        self.same(lean(line, [1, 1], [1, -1]), Ratio(0))
        self.assertIs(bends_up(line, [1, 1], [1, -1]), False)

    def test_low_degrees(self):
        flat = Blend("ab", [((0, 0), Ratio(5, 2))])
        self.same([along(flat, [1, 2], [3, 4]), worth(flat, [7, 9]), slope(flat, [1, 2], [3, 4]),
                   bend(flat, [1, 2], [3, 4]), lean(flat, [1, 2], [3, 4])],
                  [[Ratio(5, 2)], Ratio(5, 2), Ratio(0), Ratio(0), Ratio(0)])
        line = Blend("ab", [((0, 1), 3)])
        self.same([along(line, [1, 2], [3, 4]), bend(line, [1, 2], [3, 4]), lean(line, [1, 2], [3, 4])],
                  [[Ratio(6), Ratio(12)], Ratio(0), Ratio(-144)])

    def test_nought(self):
        nought = Blend("ab")
        self.same(along(nought, [1, 1], [1, 2]), [])
        self.same([worth(nought, [1, 2])] + [call(nought, [1, 2], [3, 4]) for call in (slope, bend, lean)],
                  [Ratio(0)] * 4)
        self.assertIs(bends_up(nought, [1, 1], [1, 2]), False)

    def test_wrong_blend(self):
        for value in ODD_VALUES:
            if not isinstance(value, Blend):
                self.fails(InvalidBlend(value), worth, value, None)
                self.fails(InvalidBlend(value), worth, weights=[0], blend=value)
                for call in LINES:
                    self.fails(InvalidBlend(value), call, value, None, None)
                    self.fails(InvalidBlend(value), call, direction=5, weights=[0], blend=value)

    def test_wrong_weights(self):
        for value in WRONG + [[1, 0], [0, 1], [1, -1], [Ratio(0), 1], [1, Ratio(-1, 2)]]:
            for blend in (APART, Blend("ab")):
                self.fails(InvalidWeights(value), worth, blend, value)
                self.fails(InvalidWeights(value), worth, weights=value, blend=blend)
                for call in LINES:
                    self.fails(InvalidWeights(value), call, blend, value, None)
                    self.fails(InvalidWeights(value), call, direction=[1, 1], weights=value, blend=blend)

    def test_wrong_direction(self):
        for value in WRONG:
            for blend in (APART, Blend("ab")):
                for call in LINES:
                    self.fails(InvalidDirection(value), call, blend, [1, 2], value)
                    self.fails(InvalidDirection(value), call, direction=value, weights=(1, 2), blend=blend)
        self.same(slope(APART, [1, 1], (0, Ratio(-1, 2))), Ratio(-1))


class PolarTest(Case):
    def test_document(self):
        blend = Blend("ab", [((2, 0), 1), ((1, 1), 3)])
        self.same(polar(blend, [[1, 2], [3, -1]]), Ratio(21, 2))
        draw = random.Random(7)
        for _ in range(20):
            p, q, r, s = [random_number(draw) for _ in range(4)]
            wanted = fraction(p) * fraction(r) + Fraction(3, 2) * (fraction(p) * fraction(s) + fraction(q) * fraction(r))
            self.same(polar(blend, [(p, q), [r, s]]), ratio(wanted))

    def test_three_sentences(self):
        draw = random.Random(8)
        for _ in range(40):
            blend = random_blend(draw)
            if blend.degree == 0:
                continue
            rows = [[random_number(draw) for _ in blend.letters] for _ in range(blend.degree)]
            told = self.keeps(polar, blend, rows)
            for mixed in permutations(rows):
                self.same(polar(blend, mixed), told)
            at = draw.randrange(blend.degree)
            factor = random_number(draw)
            longer = [[number * factor for number in row] if place == at else row for place, row in enumerate(rows)]
            self.same(polar(blend, longer), told * factor)
            other = [random_number(draw) for _ in blend.letters]
            one = [other if place == at else row for place, row in enumerate(rows)]
            both = [[number + more for number, more in zip(row, other)] if place == at else row
                    for place, row in enumerate(rows)]
            self.same(polar(blend, both), told + polar(blend, one))
            weights = [random_above(draw) for _ in blend.letters]
            self.same(polar(blend, [weights] * blend.degree), worth(blend, weights))

    def test_slope_and_bend(self):
        for blend, weights, direction in cases(9, 80):
            d = blend.degree
            if d >= 1:
                told = polar(blend, [weights] * (d - 1) + [direction]) * d
                self.same(told, slope(blend, weights, direction))
            if d >= 2:
                told = polar(blend, [weights] * (d - 2) + [direction] * 2) * d * (d - 1)
                self.same(told, bend(blend, weights, direction))

    def test_edges(self):
        self.same(polar(Blend("ab"), []), Ratio(0))
        self.same(polar(rows=(), blend=Blend("ab")), Ratio(0))
        self.same(polar(Blend("ab", [((0, 0), Ratio(2, 3))]), []), Ratio(2, 3))
        self.same(polar(Blend("ab", [((0, 1), 3)]), [[5, 7]]), Ratio(21))
        eight = [[0] * at + [1] + [0] * (7 - at) for at in range(8)]
        self.same(polar(Blend("abcdefgh", [((1,) * 8, 40320)]), eight), Ratio(1))
        self.same(polar(APART, [[1, 0], [0, 1]]), Ratio(0))

    def test_wrong(self):
        for value in ODD_VALUES:
            if not isinstance(value, Blend):
                self.fails(InvalidBlend(value), polar, value, None)
                self.fails(InvalidBlend(value), polar, rows=[], blend=value)
        wrong = [*ODD_VALUES, [[1, 1]], [[1, 1]] * 3, [[1, 1], [1]], [[1, 1], [1, 1, 1]], [[1, True], [1, 1]],
                 [[1, 1], [1, None]], [[1, 1], "11"], ["11", [1, 1]], [[1, 1], {1: 1, 2: 2}], {0: [1, 1], 1: [1, 1]},
                 [1, 1], [1, 1, 1, 1]]
        for value in wrong:
            self.fails(InvalidRows(value), polar, APART, value)
            self.fails(InvalidRows(value), polar, rows=value, blend=APART)
            if value not in ([], ()):
                self.fails(InvalidRows(value), polar, Blend("ab"), value)
                self.fails(InvalidRows(value), polar, Blend("ab", [((0, 0), 1)]), value)

    def test_many(self):
        for blend in blends(10, 10, letters="abcde", degree=6, most=30):
            self.same(polar(blend, [[1, 2, 3, 4, 5]] * 6), worth(blend, [1, 2, 3, 4, 5]))
