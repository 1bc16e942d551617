"""Slacks of polar numbers and polar dents [47]."""

import random
from itertools import permutations

from onecrest.blends import Blend
from onecrest.errors import InvalidBlend, InvalidDirection, InvalidRows, InvalidWeights, NotQuadric, TooMany
from onecrest.judge import dent, is_crested
from onecrest.polars import is_polar_dent, polar_dent, slack
from onecrest.ratios import Ratio
from onecrest.worths import polar
from plain import ODD_VALUES, Case, all_counts, changed_by, fraction, one_thing_changed, random_number, ratio, terms
from test_judge import APART, GAP, THREE, mixed_blends
from test_signs import digits
from test_taken import JUST_301, no_blends

LOW = [Blend("ab"), Blend("ab", [((0, 0), 1)]), Blend("ab", [((0, 1), 1)])]
CUBE = THREE * Blend("abc", [((1, 0, 0), 1), ((0, 0, 1), 2)])


def plain_polar(amounts, rows):
    """Letters are taken out along the rows, one behind another; then divided by the factorial of their number."""
    times = 1
    for many, row in enumerate(rows):
        found = {}
        for place, number in enumerate(row):
            for counts, amount in changed_by(amounts, place).items():
                found[counts] = found.get(counts, 0) + amount * fraction(number)
        amounts = found
        times *= many + 1
    return sum(amounts.values()) / times if amounts else 0


def plain_slack(blend, first, second, rows):
    both, one, two = [plain_polar(terms(blend), [*pair, *rows])
                      for pair in ((first, second), (first, first), (second, second))]
    return both ** 2 - one * two


def are_numbers(value, many, low=None):
    return type(value) in (list, tuple) and len(value) == many and all(
        type(part) in (int, Ratio) and (low is None or fraction(part) >= low) for part in value)


def is_right(blend, value):
    """Whether a value is a polar dent, by the words of [47]."""
    many = len(blend.letters)
    if type(value) is not tuple or len(value) != 3 or type(value[2]) not in (list, tuple):
        return False
    if not are_numbers(value[0], many) or not are_numbers(value[1], many, 0) or len(value[2]) != blend.degree - 2:
        return False
    return all(are_numbers(row, many, 0) for row in value[2]) and plain_slack(blend, *value) < 0


def rows_from_nought(draw, blend, many):
    return [[random_number(draw, 0, 5) for _ in blend.letters] for _ in range(many)]


class SlackTest(Case):
    def test_document(self):
        self.same((slack(THREE, [1, -1, 0], [1, 1, 1], []), is_polar_dent(GAP, ([1, -1], [1, 1], [[1, 0], [0, 1]]))),
                  (Ratio(3, 1), True))

    def test_slacks(self):
        draw = random.Random(481)
        for blend in mixed_blends(482, 12):
            if blend.is_nought or blend.degree < 2:
                continue
            first = [random_number(draw) for _ in blend.letters]
            second, *rows = rows_from_nought(draw, blend, blend.degree - 1)
            told = self.keeps(slack, blend, first, second, rows)
            self.same(told, ratio(plain_slack(blend, first, second, rows)))
            self.same(slack(rows=tuple(map(tuple, rows)), second=tuple(second), first=tuple(first), blend=blend), told)
            both, one, two = [polar(blend, [*pair, *rows])
                              for pair in ((first, second), (first, first), (second, second))]
            self.same(told, both * both - one * two)
            for order in list(permutations(rows))[:6]:
                self.same(slack(blend, first, second, list(order)), told)
            if is_crested(blend):
                self.assertGreaterEqual(told.sign, 0)

    def test_noughts_are_let(self):
        self.same(slack(APART, [0, 0], [0, 0], []), Ratio(0))
        self.same(slack(GAP, [1, 0], [0, Ratio(1, 2)], [[0, 0], (1, 1)]), Ratio(0))
        self.same(slack(APART, [1, 0], [0, 1], ()), Ratio(-1))

    def test_wrong(self):
        for value in no_blends():
            self.fails(InvalidBlend(value), slack, value, None, None, None)
            self.fails(InvalidBlend(value), slack, rows=None, second=[1], first=[1], blend=value)
            self.fails(InvalidBlend(value), polar_dent, value)
            self.fails(InvalidBlend(value), polar_dent, blend=value)
            self.fails(InvalidBlend(value), is_polar_dent, value, None)
            self.fails(InvalidBlend(value), is_polar_dent, value=([1], [1], []), blend=value)
        for blend in LOW:
            self.fails(NotQuadric(), slack, blend, None, None, None)
            self.fails(NotQuadric(), slack, rows=[], second=[1, 1], first=[1, 1], blend=blend)
            self.fails(NotQuadric(), polar_dent, blend)
            for value in ODD_VALUES:
                self.fails(NotQuadric(), is_polar_dent, blend, value)
        wrong = [*ODD_VALUES, [1], [1, 1, 1], [1, True], [1, None], "11", {0: 1, 1: 1}, [[1], [1]]]
        for value in wrong:
            self.fails(InvalidDirection(value), slack, GAP, value, None, None)
            self.fails(InvalidDirection(value), slack, rows=None, second=[-1, 1], first=value, blend=APART)
        for value in wrong + [[1, -1], [Ratio(-1, 2), 1], [-1, 0]]:
            self.fails(InvalidWeights(value), slack, GAP, [-1, 1], value, None)
            self.fails(InvalidWeights(value), slack, rows=None, second=value, first=(0, 0), blend=APART)
        good = [1, 0]
        for value in ODD_VALUES + [[good], [good] * 3, [good, [1]], [good, [1, -1]], [good, [1, True]], [good, "11"],
                                   [[1, 1, 1], good], {0: good, 1: good}, [1, 1], [good, None], [[-1, 0], good]]:
            self.fails(InvalidRows(value), slack, GAP, [1, 1], [1, 1], value)
            self.fails(InvalidRows(value), slack, rows=value, second=[0, 0], first=[0, 0], blend=GAP)
        for value in ([good], [[]], None):
            self.fails(InvalidRows(value), slack, APART, [1, 1], [1, 1], value)


class PolarDentTest(Case):
    def test_polar_dents(self):
        seen = set()
        for blend in mixed_blends(491):
            if blend.is_nought or blend.degree < 2:
                continue
            told = self.keeps(polar_dent, blend)
            seen.add(told is None)
            self.assertIs(told is None, is_crested(blend))
            if told is None:
                continue
            self.assertIs(type(told), tuple)
            self.assertEqual([type(part) for part in told], [list] * 3)
            self.assertTrue(all(type(row) is list for row in told[2]))
            self.assertTrue(all(type(number) is Ratio for row in [told[0], told[1], *told[2]] for number in row))
            self.assertTrue(is_right(blend, told))
            self.assertIs(is_polar_dent(blend, told), True)
            self.assertIs(is_polar_dent(value=tuple(map(tuple, told)), blend=blend), True)
            self.assertIs(is_polar_dent(blend, list(told)), False)
            self.assertLessEqual(max(digits(row) for row in [told[0], told[1], *told[2]]), 2000)
            self.same(polar_dent(blend=blend), told)
        self.assertEqual(seen, {True, False})

    def test_from_dents(self):
        """The direction, the weights; the row of each letter of the way, and the weights again [47]."""
        for blend in mixed_blends(492, 12):
            told = dent(blend)
            if told is None:
                continue
            way, weights, direction = told
            rows = [[int(letter == name) for name in blend.letters] for letter in way]
            rows += [weights] * (blend.degree - 2 - len(way))
            self.assertIs(is_polar_dent(blend, (direction, weights, rows)), True)

    def test_judge(self):
        draw = random.Random(493)
        seen = set()
        for blend in mixed_blends(494, 8):
            if blend.is_nought or blend.degree < 2:
                continue
            for _ in range(4):
                second, *rows = rows_from_nought(draw, blend, blend.degree - 1)
                value = ([random_number(draw) for _ in blend.letters], second, rows)
                seen.add(is_right(blend, value))
                self.same(is_polar_dent(blend, value), is_right(blend, value))
        self.assertEqual(seen, {True, False})
        for blend in (GAP, APART, Blend("abc", [((0, 2, 1), 1), ((0, 0, 3), 3)])):
            for value in one_thing_changed(polar_dent(blend)):
                self.same(is_polar_dent(blend, value), is_right(blend, value))
        for blend in (GAP, APART, THREE, CUBE):
            self.judges(is_polar_dent, [], blend)
        self.same([is_polar_dent(APART, ([1, 0], [0, 1], [])), is_polar_dent(APART, ([1, 0], [0, 1], [[1, 1]])),
                   is_polar_dent(APART, ([1, 0], [1, 0], [])), is_polar_dent(APART, ([1, 0], [-1, 1], [])),
                   is_polar_dent(APART, ([1, -1], [1, 1], ())), is_polar_dent(APART, ([1, -1], [1, 1])),
                   is_polar_dent(APART, [[1, -1], [1, 1], []])], [True, False, False, False, True, False, False])

    def test_too_many_ways(self):
        over = Blend("abcdefgh", [(one, 1) for one in JUST_301])
        every = Blend("abcdefgh", [(one, 1) for one in all_counts(8, 8)[:300]])
        unit = [[int(at == place) for at in range(8)] for place in range(8)]
        for blend in (over, every):
            self.fails(TooMany("ways", 300), polar_dent, blend)
            for value in (None, (), (unit[0], unit[1], [])):
                self.assertIs(is_polar_dent(blend, value), False)
        # one slack is asked for by itself: this one is below 0, whatever the other ways
        wide = Blend("abcdefgh", [*over.entries(), ((2, 6, 0, 0, 0, 0, 0, 0), 9), ((4, 4, 0, 0, 0, 0, 0, 0), 1)])
        self.fails(TooMany("ways", 300), polar_dent, wide)
        value = ([1, -1, 0, 0, 0, 0, 0, 0], [1, 1, 0, 0, 0, 0, 0, 0], [unit[0]] * 2 + [unit[1]] * 4)
        self.assertIs(is_right(wide, value), True)
        self.assertIs(is_polar_dent(wide, value), True)
