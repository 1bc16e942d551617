"""Letters parted and joined, normal and abnormal blends [54], [55]."""

import random
from itertools import combinations, product
from math import comb, factorial

from onecrest.blends import Blend
from onecrest.changes import led
from onecrest.errors import InvalidBlend, InvalidLetter, InvalidLetters, InvalidLot, TooMany
from onecrest.judge import is_crested
from onecrest.parted import abnormal, joined, normal, parted
from onecrest.ratios import Ratio
from onecrest.signs import signs
from onecrest.quadrics import table_of
from plain import ODD_VALUES, Case, all_counts, blends, fraction, ratio, terms
from test_changes import NO_LETTER_OF, told_by
from test_judge import APART, LOW, crested_blends, mixed_blends
from test_taken import no_blends

SQUARE = Blend("a", [((2,), 3)])
FULL = Blend("abc", [((2, 0, 1), 4), ((1, 1, 1), 1), ((0, 0, 3), Ratio(1, 2))])
EIGHT = "abcdefgh"
NO_LOTS = [value for value in ODD_VALUES if value not in ("a", "ab")] + ["d", "aa", "ba", "ad", "abca", ["a"], ("a",)]
NO_SMALL = [value for value in ODD_VALUES if value != "a"] + ["A", "aa", "1", " ", ["d"], "\n"]


def spread(blend, letter, draw, more=0):
    """Letters into which a letter can be parted, as many as its greatest count and some more, if there is room."""
    place = blend.letters.index(letter)
    most = max([1] + [counts[place] for counts, _ in blend.entries()]) + more
    others = blend.letters.replace(letter, "")
    if most + len(others) > 8:
        return None
    free = [name for name in "abcdefghijklmnopqrstuvwxyz" if name not in others]
    return "".join(sorted(draw.sample(free[:12], most)))


def plain_parted(blend, letter, letters):
    """All choices of unlike letters, product by product."""
    place = blend.letters.index(letter)
    others = blend.letters.replace(letter, "")
    every = "".join(sorted(others + letters))
    found = {}
    for counts, amount in terms(blend).items():
        for chosen in combinations(letters, counts[place]):
            held = {name: counts[blend.letters.index(name)] for name in others}
            held.update({name: int(name in chosen) for name in letters})
            key = tuple(held[name] for name in every)
            found[key] = found.get(key, 0) + amount / comb(len(letters), counts[place])
    return told_by(every, found)


class PartedTest(Case):
    def test_document(self):
        told = [parted(SQUARE, "a", "bcd").entries(), joined(parted(SQUARE, "a", "bcd"), "bcd", "a") == SQUARE,
                abnormal(normal(SQUARE)) == SQUARE]
        self.same(told, [[((0, 1, 1), Ratio(1, 1)), ((1, 0, 1), Ratio(1, 1)), ((1, 1, 0), Ratio(1, 1))], True, True])

    def test_product_by_product(self):
        draw = random.Random(601)
        met = {"among": 0, "other": 0, "ahead": 0}
        for blend in blends(602, 80, most=5) + LOW:
            letter = draw.choice(blend.letters)
            for more in (0, 1):
                letters = spread(blend, letter, draw, more)
                if letters is None:
                    continue
                told = self.keeps(parted, blend, letter, letters)
                self.same(told, plain_parted(blend, letter, letters))
                self.same(parted(letters=letters, letter=letter, blend=blend), told)
                # and joined again
                self.same(self.keeps(joined, told, letters, letter), blend)
                met["among" if letter in letters else "other"] += 1
                met["ahead"] += letters[0] < min(blend.letters)
        self.assertGreater(min(met.values()), 5)

    def test_crested_exactly_if_parted(self):
        draw = random.Random(603)
        seen = set()
        for blend in mixed_blends(604, 10):
            letter = draw.choice(blend.letters)
            letters = spread(blend, letter, draw, draw.randint(0, 1))
            if letters is not None:
                self.same(is_crested(parted(blend, letter, letters)), is_crested(blend))
                seen.add(is_crested(blend))
        self.assertEqual(seen, {True, False})

    def test_edges(self):
        # a letter that no product has, to one letter or to more; itself among the new ones
        line = Blend("abc", [((0, 1, 1), 2)])
        self.same(parted(line, "a", "xyz"), Blend("bcxyz", [((1, 1, 0, 0, 0), 2)]))
        self.same(parted(line, "a", "a"), line)
        self.same(parted(line, "b", "b"), line)
        self.same(parted(line, "b", "z"), Blend("acz", [((0, 1, 1), 2)]))
        self.same(parted(Blend("ab"), "a", "cd"), Blend("bcd"))
        # just as many as the greatest count, and one fewer
        self.same(parted(SQUARE, "a", "ab"), Blend("ab", [((1, 1), 3)]))
        self.fails(InvalidLetters("b"), parted, SQUARE, "a", "b")
        self.fails(InvalidLetters("a"), parted, SQUARE, "a", "a")
        self.fails(InvalidLetters("xy"), parted, FULL, "c", "xy")
        self.same(parted(FULL, "c", "xyz").letters, "abxyz")
        # eight letters together, and nine
        self.same(parted(FULL, "c", "cdefgh").letters, EIGHT)
        self.fails(InvalidLetters("cdefghi"), parted, FULL, "c", "cdefghi")
        self.fails(InvalidLetters("tuvwxyz"), parted, FULL, "c", "tuvwxyz")
        self.same(len(parted(Blend("a", [((4,), 1)]), "a", "stuvwxyz")), 70)
        self.same(parted(Blend("a", [((8,), 1)]), "a", EIGHT), Blend(EIGHT, [((1,) * 8, 1)]))

    def test_too_many(self):
        counts = [(2, *one) for one in all_counts(4, 2)]
        wide = Blend("abcde", [(one, 1) for one in counts])
        self.same(len(parted(wide, "a", "wxyz")), 60)
        long = Blend("abcd", [((2, *one), 1) for one in all_counts(3, 5)])
        self.same(len(parted(long, "a", "vwxyz")), 210)
        more = Blend("abcd", [((2, *one), 1) for one in all_counts(3, 5)] + [((1, *one), 1) for one in all_counts(3, 6)[:18]])
        self.same(len(parted(more, "a", "vwxyz")), 300)
        over = more + Blend("abcd", [((0, 7, 0, 0), 1)])
        self.fails(TooMany("entries", 300), parted, over, "a", "vwxyz")
        self.fails(InvalidLetters("v"), parted, over, "a", "v")

    def test_wrong(self):
        for value in no_blends():
            self.fails(InvalidBlend(value), parted, value, None, None)
            self.fails(InvalidBlend(value), parted, letters="ba", letter="b", blend=value)
        for value in NO_LETTER_OF:
            if value not in ("b", "c"):
                self.fails(InvalidLetter(value), parted, FULL, value, None)
                self.fails(InvalidLetter(value), parted, letters="ba", letter=value, blend=Blend("abc"))
        for value in [value for value in ODD_VALUES if value not in ("a", "ab")] + [
                "aa", "ba", "xx", "yx", ["x", "y"], ("x",), "x1", "xY", "b", "bx", "cx", "abx", "xyzb", "abcdefghi"]:
            self.fails(InvalidLetters(value), parted, FULL, "a", value)
            self.fails(InvalidLetters(value), parted, letters=value, letter="a", blend=Blend("abc"))


class JoinedTest(Case):
    def test_as_a_leading(self):
        draw = random.Random(611)
        for blend in blends(612, 80, most=6) + LOW:
            lot = "".join(sorted(draw.sample(blend.letters, draw.randint(1, len(blend.letters)))))
            others = [name for name in blend.letters if name not in lot]
            for letter in {draw.choice(lot), draw.choice([name for name in "abcdwxyz" if name not in others])}:
                told = self.keeps(joined, blend, lot, letter)
                letters = "".join(sorted(others + [letter]))
                rows = {name: [int(new == (letter if name in lot else name)) for new in letters]
                        for name in blend.letters}
                self.same(told, led(blend, letters, rows))
                self.same(joined(letter=letter, lot=lot, blend=blend), told)

    def test_edges(self):
        self.same(joined(FULL, "b", "b"), FULL)
        self.same(joined(FULL, "b", "z"), Blend("acz", [((2, 1, 0), 4), ((1, 1, 1), 1), ((0, 3, 0), Ratio(1, 2))]))
        self.same(joined(FULL, "abc", "b"), Blend("b", [((3,), Ratio(11, 2))]))
        self.same(joined(FULL, "abc", "x"), Blend("x", [((3,), Ratio(11, 2))]))
        self.same(joined(FULL, "ab", "a"), Blend("ac", [((2, 1), 5), ((0, 3), Ratio(1, 2))]))
        self.same(joined(Blend("ab"), "ab", "c"), Blend("c"))

    def test_crested_stays_crested(self):
        draw = random.Random(613)
        for blend in crested_blends(614, 12):
            lot = "".join(sorted(draw.sample(blend.letters, draw.randint(1, len(blend.letters)))))
            self.assertIs(is_crested(joined(blend, lot, "z")), True)

    def test_wrong(self):
        for value in no_blends():
            self.fails(InvalidBlend(value), joined, value, None, None)
            self.fails(InvalidBlend(value), joined, letter="A", lot="ba", blend=value)
        for value in NO_LOTS:
            self.fails(InvalidLot(value), joined, FULL, value, None)
            self.fails(InvalidLot(value), joined, letter="A", lot=value, blend=Blend("abc"))
        for value in NO_SMALL + ["c"]:
            self.fails(InvalidLetter(value), joined, FULL, "ab", value)
            self.fails(InvalidLetter(value), joined, letter=value, lot="ab", blend=Blend("abc"))
        for value in ("a", "b"):
            self.fails(InvalidLetter(value), joined, FULL, "c", value)


class NormalTest(Case):
    def test_amount_by_amount(self):
        for blend in blends(621, 60) + LOW:
            factors = {}
            for counts in terms(blend):
                factors[counts] = 1
                for count in counts:
                    factors[counts] *= factorial(count)
            for call, wanted in ((normal, {one: amount / factors[one] for one, amount in terms(blend).items()}),
                                 (abnormal, {one: amount * factors[one] for one, amount in terms(blend).items()})):
                told = self.keeps(call, blend)
                self.same(told, told_by(blend.letters, wanted))
                self.same(call(blend=blend), told)
            self.same(abnormal(normal(blend)), blend)
            self.same(normal(abnormal(blend)), blend)

    def test_of_crested_ones(self):
        for blend in crested_blends(622, 20):
            self.assertIs(is_crested(normal(blend)), True)

    def test_abnormal_need_not_be(self):
        """a a + 2 a b + b b is crested, 2 a a + 2 a b + 2 b b is not: two squares above nought [55]."""
        square = Blend("ab", [((2, 0), 1), ((1, 1), 2), ((0, 2), 1)])
        other = Blend("ab", [((2, 0), 2), ((1, 1), 2), ((0, 2), 2)])
        self.same(abnormal(square), other)
        self.same([is_crested(square), is_crested(other), signs(table_of(other))], [True, False, (2, 0, 0)])

    def test_edges(self):
        self.same(normal(Blend("a", [((8,), 1)])), Blend("a", [((8,), Ratio(1, 40320))]))
        self.same(abnormal(Blend("ab", [((4, 4), Ratio(1, 24))])), Blend("ab", [((4, 4), 24)]))
        lots = Blend("abc", [(one, 7) for one in product((0, 1), repeat=3) if sum(one) == 2])
        self.same([normal(lots), abnormal(lots)], [lots, lots])
        self.same([normal(Blend("ab")), abnormal(Blend("ab"))], [Blend("ab")] * 2)
        self.same(normal(APART).amount((2, 0)), Ratio(1, 2))
        self.same(ratio(fraction(abnormal(APART).amount((2, 0)))), Ratio(2))

    def test_wrong(self):
        for value in no_blends():
            for call in (normal, abnormal):
                self.fails(InvalidBlend(value), call, value)
                self.fails(InvalidBlend(value), call, blend=value)
