"""Lot blends, chances of lots, with and without a letter [71] to [73]."""

import random
from fractions import Fraction
from itertools import combinations

from onecrest.blends import Blend
from onecrest.chances import chance, lots, products_chances, with_letter, without_letter
from onecrest.errors import InvalidBlend, InvalidLetter, InvalidLot, InvalidWeights, NotLots
from onecrest.judge import is_crested
from onecrest.ratios import Ratio
from onecrest.taken import taken
from onecrest.worths import worth
from plain import ODD_VALUES, Case, exact, fraction, random_above, ratio, terms
from test_judge import lot_blend
from test_taken import no_blends

WEB = Blend("abc", [((1, 1, 0), 1), ((1, 0, 1), 1), ((0, 1, 1), 1)])
CROSS = Blend("abcd", [((1, 1, 0, 0), 1), ((0, 0, 1, 1), 1)])
NO_LOT_BLENDS = [Blend("abc"), Blend("abc", [((0, 0, 0), 2)]), Blend("abc", [((1, 1, 0), 1), ((0, 0, 2), 1)]),
                 Blend("abc", [((2, 0, 0), 1)])]
NO_WEIGHTS = [value for value in ODD_VALUES if exact(value) != exact((1, 2, 3))] + [
    [1, 1], [1] * 4, [1, 1, 0], [1, -1, 1], [1, Ratio(0), 1], [1, 1, True], [1, 1, None], "abc", {0: 1, 1: 1, 2: 1},
    [[1], [1], [1]], range(1, 4)]
NO_LETTERS = [value for value in ODD_VALUES if value != "a"] + ["d", "B", ["a"], ("a",), "ac"]
NO_LOTS = [value for value in ODD_VALUES if exact(value) not in map(exact, ("", "a", "ab"))] + [
    "aa", "ca", "abcd", "d", ["a"], ("a", "b"), "a,b", "abb"]


def plain_chances(blend, weights):
    """The dict from lots to their chances, Fractions, by the share of each in the plain sum."""
    found = {}
    for counts, amount in terms(blend).items():
        for count, weight in zip(counts, weights):
            amount *= fraction(weight) ** count
        found["".join(letter for letter, count in zip(blend.letters, counts) if count)] = amount
    whole = sum(found.values())
    return {lot: found[lot] / whole for lot in sorted(found)}


def plain_chance(blend, weights, letters):
    return sum((share for lot, share in plain_chances(blend, weights).items() if set(letters) <= set(lot)), Fraction(0))


def random_weights(draw, blend):
    return [random_above(draw) for _ in blend.letters]


def lot_blends(seed, many=25, few=70):
    """Lot blends, crested ones and others, some with letters that no lot has or that all have."""
    draw = random.Random(seed)
    found = [WEB, CROSS, Blend("ab", [((1, 1), 2)]), Blend("a", [((1,), Ratio(3, 2))]), Blend("ab", [((0, 1), 5)]),
             Blend("abcd", [((1, 1, 0, 0), 1), ((1, 0, 1, 0), Ratio(1, 2))])]
    for at in range(many):
        size = draw.randint(1, 6)
        found.append(lot_blend(draw, size, draw.randint(1, size), some=at % 2 == 1))
    return [(draw, blend, random_weights(draw, blend)) for blend in found if len(blend) <= few]


class LotsTest(Case):
    def test_document(self):
        self.same([lots(WEB), chance(WEB, [1, 2, 3], "a") == Ratio(5, 11),
                   with_letter(WEB, "a") == Blend("abc", [((0, 1, 0), 1), ((0, 0, 1), 1)])],
                  [["ab", "ac", "bc"], True, True])

    def test_lots(self):
        for _, blend, weights in lot_blends(711):
            told = self.keeps(lots, blend)
            self.same(told, list(plain_chances(blend, weights)))
            self.same(lots(blend=blend), told)
            self.assertTrue(all(len(lot) == blend.degree == len(set(lot)) for lot in told))
        # sorted as strings, not as their counts are
        self.same(lots(Blend("abcd", [((0, 0, 1, 1), 1), ((1, 0, 0, 1), 1), ((1, 1, 0, 0), 1)])), ["ab", "ad", "cd"])

    def test_no_lot_blends(self):
        for blend in NO_LOT_BLENDS:
            self.fails(NotLots(), lots, blend)
            self.fails(NotLots(), chance, blend, [1, 1, 1], "a")
            self.fails(NotLots(), products_chances, blend, [1, 2, 3])
            self.fails(NotLots(), with_letter, blend, "a")
            self.fails(NotLots(), without_letter, letter="a", blend=blend)
            # behind all errors of the parameters
            self.fails(InvalidWeights([1]), products_chances, blend, [1])
            self.fails(InvalidWeights([1]), chance, blend, [1], "ba")
            self.fails(InvalidLot("ba"), chance, blend, [1, 1, 1], "ba")
            self.fails(InvalidLetter("d"), with_letter, blend, "d")
            self.fails(InvalidLetter("d"), without_letter, blend, "d")


class ChanceTest(Case):
    def test_plain_sums(self):
        for draw, blend, weights in lot_blends(721):
            asked = ["".join(lot) for many in range(len(blend.letters) + 1)
                     for lot in combinations(blend.letters, many)]
            for lot in draw.sample(asked, min(8, len(asked))):
                told = self.keeps(chance, blend, weights, lot)
                self.same(told, ratio(plain_chance(blend, weights, lot)))
                self.same(chance(lot=lot, weights=tuple(weights), blend=blend), told)

    def test_all_products(self):
        for _, blend, weights in lot_blends(722):
            told = self.keeps(products_chances, blend, weights)
            self.same(told, [(lot, ratio(share)) for lot, share in plain_chances(blend, weights).items()])
            self.same(products_chances(weights=tuple(weights), blend=blend), told)
            self.same([lot for lot, _ in told], lots(blend))
            self.same(Ratio.total([share for _, share in told]), Ratio(1))
            self.same([chance(blend, weights, lot) for lot, _ in told], [share for _, share in told])

    def test_facts(self):
        """Single letters add up to d; a letter's chance by what is left without it [72]."""
        for _, blend, weights in lot_blends(723):
            singles = [chance(blend, weights, letter) for letter in blend.letters]
            self.same(Ratio.total(singles), Ratio(blend.degree))
            for letter, weight, single in zip(blend.letters, weights, singles):
                left = worth(taken(blend, letter), weights)
                self.same((left * weight).over(worth(blend, weights)), single)

    def test_edges(self):
        for _, blend, weights in lot_blends(724, 6):
            self.same(chance(blend, weights, ""), Ratio(1))
        some = Blend("abcd", [((1, 1, 0, 0), 1), ((1, 0, 1, 0), Ratio(1, 2))])
        self.same([chance(some, [1, 1, 1, 1], lot) for lot in ("a", "d", "b", "bc", "ad", "abc", "abcd")],
                  [Ratio(1), Ratio(0), Ratio(2, 3), Ratio(0), Ratio(0), Ratio(0), Ratio(0)])
        self.same(products_chances(Blend("b", [((1,), 9)]), [Ratio(1, 7)]), [("b", Ratio(1))])

    def test_wrong(self):
        for value in no_blends():
            self.fails(InvalidBlend(value), lots, value)
            self.fails(InvalidBlend(value), lots, blend=value)
            self.fails(InvalidBlend(value), chance, value, None, None)
            self.fails(InvalidBlend(value), chance, lot="ba", weights=[], blend=value)
            self.fails(InvalidBlend(value), products_chances, value, None)
            self.fails(InvalidBlend(value), products_chances, weights=0, blend=value)
        for value in NO_WEIGHTS:
            self.fails(InvalidWeights(value), chance, WEB, value, None)
            self.fails(InvalidWeights(value), chance, lot="ba", weights=value, blend=WEB)
            self.fails(InvalidWeights(value), products_chances, WEB, value)
            self.fails(InvalidWeights(value), products_chances, weights=value, blend=WEB)
        for value in NO_LOTS:
            self.fails(InvalidLot(value), chance, WEB, [1, 1, 1], value)
            self.fails(InvalidLot(value), chance, lot=value, weights=(1, 2, 3), blend=WEB)


class WithAndWithoutTest(Case):
    def test_put_together_again(self):
        for _, blend, weights in lot_blends(731):
            for letter in blend.letters:
                having, lacking = self.keeps(with_letter, blend, letter), self.keeps(without_letter, blend, letter)
                self.same((having.letters, lacking.letters), (blend.letters, blend.letters))
                unit = Blend(blend.letters, [([int(name == letter) for name in blend.letters], 1)])
                self.same(lacking + having * unit, blend)
                place = blend.letters.index(letter)
                self.assertEqual(terms(lacking), {key: part for key, part in terms(blend).items() if not key[place]})
                self.same(having, taken(blend, letter))
                self.same(with_letter(letter=letter, blend=blend), having)
                self.same(without_letter(letter=letter, blend=blend), lacking)

    def test_both_stay_crested(self):
        met = 0
        for _, blend, _ in lot_blends(732):
            if is_crested(blend):
                met += 1
                for letter in blend.letters:
                    self.assertTrue(is_crested(with_letter(blend, letter)) and is_crested(without_letter(blend, letter)))
        self.assertGreater(met, 8)

    def test_edges(self):
        blend = Blend("abc", [((1, 1, 0), 2)])
        nought = Blend("abc")
        self.same([with_letter(blend, "c"), without_letter(blend, "c")], [nought, blend])
        self.same([with_letter(blend, "a"), without_letter(blend, "a")], [Blend("abc", [((0, 1, 0), 2)]), nought])
        self.same(with_letter(Blend("a", [((1,), 4)]), "a"), Blend("a", [((0,), 4)]))

    def test_wrong(self):
        for call in (with_letter, without_letter):
            for value in no_blends():
                self.fails(InvalidBlend(value), call, value, None)
                self.fails(InvalidBlend(value), call, letter="z", blend=value)
            for value in NO_LETTERS:
                self.fails(InvalidLetter(value), call, WEB, value)
                self.fails(InvalidLetter(value), call, letter=value, blend=WEB)
