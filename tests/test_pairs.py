"""Two letters together, pair tables and pair papers [74], [75]."""

import random
from fractions import Fraction
from itertools import permutations

from onecrest.blends import Blend
from onecrest.chances import chance
from onecrest.errors import InvalidBlend, InvalidLetter, InvalidWeights, NotLots
from onecrest.judge import is_crested
from onecrest.lots import greatest_blend
from onecrest.nets import forests, trees
from onecrest.pairs import helps, is_pair_paper, pair_paper, pair_slack, pair_table, together
from onecrest.ratios import Ratio
from onecrest.squares import is_squares, squares
from onecrest.tables import is_table
from onecrest.worths import bends_up
from plain import ODD_VALUES, Case, all_counts, fraction, one_thing_changed, random_above, random_number, ratio
from test_chances import (CROSS, NO_LOT_BLENDS, NO_LETTERS, NO_WEIGHTS, WEB, lot_blends, plain_chance, random_weights)
from test_nets import nets
from test_signs import digits, plain_signs
from test_squares import are_right
from test_taken import no_blends

CALLS = (together, pair_slack, helps)
AB = Blend("ab", [((1, 1), 2)])


def plain_table(blend, weights):
    factor = 1 - Fraction(1, blend.degree)
    return [[factor * plain_chance(blend, weights, one) * plain_chance(blend, weights, two)
             - (plain_chance(blend, weights, one + two) if one != two else 0)
             for two in blend.letters] for one in blend.letters]


def is_right(table, value):
    """Whether a value is squares of the table, none of whose numbers is below 0."""
    return are_right(table, value) and all(fraction(number) >= 0 for number, _ in value)


class PairTest(Case):
    def test_document(self):
        self.same([pair_slack(WEB, [1, 2, 3], "a", "b") == Ratio(18, 121), helps(WEB, [1, 2, 3], "a", "b")],
                  [True, False])
        self.same(is_pair_paper(Blend("ab", [((1, 1), 2)]), [1, 5], [(Ratio(1, 2), [1, -1])]), True)
        # of a b alone both chances are 1 and the slack is 0 [74]
        self.same([chance(AB, [1, 5], "a"), chance(AB, [1, 5], "b"), pair_slack(AB, [1, 5], "a", "b")],
                  [Ratio(1), Ratio(1), Ratio(0)])
        # of all pairs of three letters no two help one another at weights that are all alike [74]
        for weight in (1, 7, Ratio(2, 3)):
            for letter, other in permutations("abc", 2):
                self.same(helps(WEB, [weight] * 3, letter, other), False)

    def test_each_pair(self):
        seen = set()
        for _, blend, weights in lot_blends(741):
            for letter, other in permutations(blend.letters, 2):
                one, two = plain_chance(blend, weights, letter), plain_chance(blend, weights, other)
                both = plain_chance(blend, weights, letter + other)
                wanted = [ratio(both), ratio(2 * (1 - Fraction(1, blend.degree)) * one * two - both), both > one * two]
                told = [self.keeps(call, blend, weights, letter, other) for call in CALLS]
                self.same(told, wanted)
                self.same([call(other=other, letter=letter, weights=tuple(weights), blend=blend) for call in CALLS], told)
                seen.add((told[2], told[1].sign))
        self.assertLessEqual({(True, -1), (False, 1), (True, 1), (False, 0)}, seen)

    def test_crested_ones_have_no_slack_below(self):
        draw = random.Random(742)
        met = 0
        for _, blend, _ in lot_blends(743):
            if is_crested(blend):
                for _ in range(3):
                    weights = random_weights(draw, blend)
                    for letter, other in permutations(blend.letters, 2):
                        self.assertGreaterEqual(pair_slack(blend, weights, letter, other).sign, 0)
                        met += 1
        self.assertGreater(met, 100)

    def test_two_may_help(self):
        """Two letters of a crested lot blend can help one another, up to the bound of the slack [74]."""
        heavy = ((0, 1, 1, 1, 0), (1, 0, 1, 0, 1), (1, 1, 0, 1, 0))
        entries = [(counts, 2 if counts in heavy else 1) for counts in all_counts(5, 3) if max(counts) == 1]
        blend, weights = Blend("abcde", entries), [1] * 5
        self.same([is_crested(blend), helps(blend, weights, "b", "d"), pair_slack(blend, weights, "b", "d").sign],
                  [True, True, 1])

    def test_trees_of_nets_never_help(self):
        draw = random.Random(744)
        met = 0
        for net in nets(745, 25):
            if not trees(net) or net.places == 1:
                continue
            blend = greatest_blend(len(net), forests(net))
            for _ in range(2):
                weights = [random_above(draw) for _ in blend.letters]
                for letter, other in permutations(blend.letters, 2):
                    met += 1
                    self.same(helps(blend, weights, letter, other), False)
        self.assertGreater(met, 100)

    def test_edges(self):
        blend = Blend("abc", [((1, 0, 0), 2), ((0, 1, 0), 3)])
        self.same([together(blend, [1] * 3, "a", "b"), pair_slack(blend, [1] * 3, "a", "b"),
                   helps(blend, [1] * 3, "a", "b"), together(blend, [1] * 3, "c", "a"),
                   pair_slack(blend, [1] * 3, "b", "c")], [Ratio(0), Ratio(0), False, Ratio(0), Ratio(0)])
        self.same([pair_slack(CROSS, [1] * 4, "a", "b"), helps(CROSS, [1] * 4, "b", "a"),
                   together(CROSS, [1, 1, 1, 3], "c", "d")], [Ratio(-1, 4), True, Ratio(3, 4)])

    def test_wrong(self):
        for call in CALLS:
            for value in no_blends():
                self.fails(InvalidBlend(value), call, value, None, None, None)
                self.fails(InvalidBlend(value), call, other="a", letter="a", weights=[1], blend=value)
            for value in NO_WEIGHTS:
                self.fails(InvalidWeights(value), call, WEB, value, None, None)
                self.fails(InvalidWeights(value), call, other=1, letter=0, weights=value, blend=NO_LOT_BLENDS[0])
            for value in NO_LETTERS:
                self.fails(InvalidLetter(value), call, WEB, [1] * 3, value, None)
                self.fails(InvalidLetter(value), call, other=0, letter=value, weights=[1] * 3, blend=NO_LOT_BLENDS[1])
                self.fails(InvalidLetter(value), call, WEB, [1] * 3, "a", value)
                self.fails(InvalidLetter(value), call, other=value, letter="b", weights=[1] * 3, blend=NO_LOT_BLENDS[2])
            self.fails(InvalidLetter("a"), call, WEB, [1] * 3, "a", "a")
            for blend in NO_LOT_BLENDS:
                self.fails(InvalidLetter("c"), call, blend, [1] * 3, "c", "c")
                self.fails(NotLots(), call, blend, [1] * 3, "a", "b")


class PairTableTest(Case):
    def test_number_by_number(self):
        for _, blend, weights in lot_blends(751):
            told = self.keeps(pair_table, blend, weights)
            self.same(told, [[ratio(number) for number in row] for row in plain_table(blend, weights)])
            self.same(pair_table(weights=tuple(weights), blend=blend), told)
            self.assertIs(is_table(told), True)
            for row in told:
                self.same(Ratio.total(row), Ratio(0))

    def test_papers(self):
        seen = set()
        for draw, blend, weights in lot_blends(752):
            table = pair_table(blend, weights)
            told = self.keeps(pair_paper, blend, weights)
            self.assertIs(told is None, plain_signs(table)[1] > 0)
            seen.add(told is None)
            if is_crested(blend):
                self.assertIsNotNone(told)
            # no square below exactly if the blend bends up in no direction there [75]
            if told is not None:
                self.assertTrue(is_right(table, told))
                self.assertIs(is_pair_paper(blend, weights, told), True)
                self.assertIs(is_pair_paper(value=tuple(told), weights=tuple(weights), blend=blend), True)
                self.assertLessEqual(max([digits(form) for _, form in told] + [0]), 2000)
                for _ in range(10):
                    self.assertIs(bends_up(blend, weights, [random_number(draw) for _ in weights]), False)
            else:
                self.assertIs(is_pair_paper(blend, weights, squares(table)), False)
        self.assertEqual(seen, {True, False})

    def test_form_is_the_bend(self):
        """CROSS bends up where its pair table has a value below 0: a and b heavier, c and d lighter."""
        weights = [1, 1, 1, 1]
        self.assertIsNone(pair_paper(CROSS, weights))
        self.assertIs(bends_up(CROSS, weights, [1, 1, -1, -1]), True)

    def test_judge(self):
        for _, blend, weights in lot_blends(753, 8):
            table = pair_table(blend, weights)
            told = pair_paper(blend, weights)
            values = [told, squares(table), [], None, [(-number, form) for number, form in squares(table)]]
            if told is not None and len(told) < 4:
                values += one_thing_changed(told)
            for value in values:
                self.same(is_pair_paper(blend, weights, value), is_right(table, value))
            self.judges(is_pair_paper, [[], ()] if not squares(table) else [], blend, weights)
        half = Ratio(1, 2)
        # squares, but with one below 0 that others make up for: not of a paper
        self.same([is_pair_paper(AB, [1, 5], [(half, [1, -1])]), is_pair_paper(AB, [1, 5], [(half, (-1, 1))]),
                   is_pair_paper(AB, [1, 5], [(1, [1, -1]), (-half, [1, -1])]),
                   is_pair_paper(AB, [1, 5], [(2, [half, -half])]), is_pair_paper(AB, [1, 5], [(half, [1, -1, 0])])],
                  [True, True, False, True, False])
        other = [squares(pair_table(blend, weights)) for blend, weights in ((CROSS, [1] * 4),)][0]
        self.same([is_squares(pair_table(CROSS, [1] * 4), other), is_pair_paper(CROSS, [1] * 4, other)], [True, False])

    def test_degree_one(self):
        """Of single letters the table is noughts but for both together: none come together."""
        blend = Blend("ab", [((1, 0), 2), ((0, 1), 3)])
        self.same([pair_table(blend, [1, 1]), pair_paper(blend, [1, 1]), is_pair_paper(blend, [1, 1], ())],
                  [[[Ratio(0)] * 2] * 2, [], True])

    def test_wrong(self):
        for call, rest in ((pair_table, ()), (pair_paper, ()), (is_pair_paper, (None,))):
            for value in no_blends():
                self.fails(InvalidBlend(value), call, value, None, *rest)
            for value in NO_WEIGHTS:
                self.fails(InvalidWeights(value), call, WEB, value, *rest)
                self.fails(InvalidWeights(value), call, NO_LOT_BLENDS[0], value, *rest)
            for blend in NO_LOT_BLENDS:
                self.fails(NotLots(), call, blend, [1] * 3, *rest)
        self.fails(NotLots(), is_pair_paper, value=[], weights=[1, 1, 1], blend=NO_LOT_BLENDS[3])
        for value in ODD_VALUES:
            self.fails(NotLots(), is_pair_paper, NO_LOT_BLENDS[0], [1, 1, 1], value)
