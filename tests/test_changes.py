"""Letters led, alike, exchanged, passed; changes along numbers, cuts [51] to [53]."""

import random
from fractions import Fraction
from itertools import product

from onecrest.blends import Blend
from onecrest.changes import along_numbers, alike, cut, exchanged, led, passed
from onecrest.errors import (HasSquares, InvalidBlend, InvalidLeads, InvalidLetter, InvalidLetters, InvalidMany,
                             InvalidNumbers, InvalidShare, TooMany)
from onecrest.judge import fault, is_crested
from onecrest.ratios import Ratio
from onecrest.worths import worth
from plain import (ODD_VALUES, Case, all_counts, blends, changed_by, exact, fraction, random_above, random_number, ratio,
                   terms, worth_of)
from test_judge import APART, LOW, crested_blends, lot_blend, mixed_blends
from test_taken import no_blends

PAIR = Blend("ab", [((1, 1), 1)])
SQUARE = Blend("ab", [((2, 0), 1), ((1, 1), 3)])
HALF = Ratio(1, 2)
EIGHT = "abcdefgh"
NO_LETTERS = [value for value in ODD_VALUES if value not in ("a", "ab")] + ["aa", "ba", "abcdefghi", ["a"], "aB", "a1"]
NO_LETTER_OF = [value for value in ODD_VALUES if value != "a"] + ["c", "B", ["a"], ("a",), "aa"]
NO_NUMBERS = [*ODD_VALUES, [1], [1, 1, 1], [1, True], [1, None], "11", {0: 1, 1: 1}, [1, -1], [Ratio(-1, 9), 0],
              [[1], [1]], range(2)]
NO_SHARES = [value for value in ODD_VALUES if exact(value) not in map(exact, (0, 1, HALF, Ratio(0)))] + [
    Ratio(3, 2), Ratio(-1, 9), Ratio(1000001, 1000000), -1, 2, "1/2"]


def told_by(letters, amounts):
    """The blend of a dict of products, those with the amount 0 left out."""
    return Blend(letters, [(counts, ratio(amount)) for counts, amount in amounts.items() if amount])


def plain_led(blend, letters, rows):
    """Each product multiplied out by taking one new letter for each of its letters, in all ways."""
    found = {}
    for counts, amount in terms(blend).items():
        held = [letter for letter, count in zip(blend.letters, counts) for _ in range(count)]
        for choice in product(range(len(letters)), repeat=len(held)):
            part = amount
            for letter, place in zip(held, choice):
                part *= fraction(rows[letter][place])
            key = tuple(choice.count(place) for place in range(len(letters)))
            found[key] = found.get(key, 0) + part
    return told_by(letters, found)


def random_leads(draw, blend, many):
    return {letter: [draw.choice([0, random_number(draw, 0, 3)]) for _ in range(many)] for letter in blend.letters}


class LedTest(Case):
    def test_document(self):
        told = [led(PAIR, "xy", {"a": [1, 1], "b": [1, 1]}).entries(), along_numbers(PAIR, [2, 3]).entries(),
                cut(PAIR, "a", 0).is_nought]
        self.same(told, [[((0, 2), Ratio(1, 1)), ((1, 1), Ratio(2, 1)), ((2, 0), Ratio(1, 1))],
                         [((0, 1), Ratio(2, 1)), ((1, 0), Ratio(3, 1))], True])

    def test_multiplied_out(self):
        draw = random.Random(501)
        for blend in blends(502, 60, most=5) + LOW:
            letters = "".join(sorted(draw.sample("abcxyz", draw.randint(1, 3))))
            rows = random_leads(draw, blend, len(letters))
            told = self.keeps(led, blend, letters, rows)
            self.same(told, plain_led(blend, letters, rows))
            turned = {letter: tuple(rows[letter]) for letter in reversed(list(rows))}
            self.same(led(rows=turned, letters=letters, blend=blend), told)
            weights = [random_above(draw) for _ in letters]
            old = [sum(fraction(number) * fraction(weight) for number, weight in zip(rows[letter], weights))
                   for letter in blend.letters]
            self.same(worth(told, weights), ratio(worth_of(terms(blend), old)))

    def test_crested_stays_crested(self):
        draw = random.Random(503)
        for blend in crested_blends(504, 10):
            many = draw.randint(1, 4)
            self.assertIsNone(fault(led(blend, "wxyz"[:many], random_leads(draw, blend, many))))

    def test_noughts(self):
        rows = {"a": [0, 0], "b": [1, Ratio(2)]}
        self.same(led(SQUARE, "xy", rows), Blend("xy"))
        self.same(led(Blend("ab", [((0, 2), 3), ((1, 1), 5)]), "xy", rows),
                  Blend("xy", [((2, 0), 3), ((1, 1), 12), ((0, 2), 12)]))
        self.same(led(Blend("ab"), "xy", rows), Blend("xy"))
        self.same(led(Blend("ab", [((0, 0), 2)]), "z", {"a": [0], "b": [0]}), Blend("z", [((0,), 2)]))
        self.same(led(SQUARE, "z", {"a": [2], "b": [HALF]}), Blend("z", [((2,), 7)]))
        self.same(led(SQUARE, "ab", {"a": [0, 1], "b": [1, 0]}), exchanged(SQUARE, "a", "b"))

    def test_too_many(self):
        one = {"a": [1] * 8}
        self.same(len(led(Blend("a", [((3,), 1)]), EIGHT, one)), 120)
        self.fails(TooMany("entries", 300), led, Blend("a", [((4,), 1)]), EIGHT, one)
        self.fails(TooMany("entries", 300), led, Blend("a", [((8,), 1)]), EIGHT, one)
        # 300 products at once, and one more by the other letter
        fine = [(counts, 1) for counts in all_counts(8, 4)[:300]]
        same = {letter: [int(letter == name) for name in EIGHT] for letter in EIGHT}
        self.same(led(Blend(EIGHT, fine), EIGHT, same), Blend(EIGHT, fine))
        blend = Blend("ab", [((4, 0), 1), ((0, 4), 1)])
        six = {"a": [1] * 6 + [0, 0], "b": [0] * 4 + [1] * 4}
        self.same(len(led(blend, EIGHT, six)), 156)
        # what falls away by a letter that becomes 0 is not counted
        gone = Blend("abc", [((7, 1, 0), 1), ((0, 1, 7), 1)])
        rows = {"a": [1] * 8, "b": [0] * 8, "c": [1] + [0] * 7}
        self.same(led(gone, EIGHT, rows), Blend(EIGHT))
        rows = {"a": [0] * 8, "b": [1] * 8, "c": [1] + [0] * 7}
        self.same(len(led(gone, EIGHT, rows)), 8)
        rows = {"a": [0] * 8, "b": [1] * 8, "c": [1] * 8}
        self.same(led(Blend("abc", [((1, 7, 0), 1)]), EIGHT, rows), Blend(EIGHT))
        rows = {"a": [1] * 8, "b": [1] * 8, "c": [0] * 8}
        self.fails(TooMany("entries", 300), led, gone, EIGHT, rows)

    def test_just_300(self):
        blend = Blend(EIGHT, [((*counts, 0), 1) for counts in all_counts(7, 4)]
                      + [((*counts, 1), 1) for counts in all_counts(7, 3)] + [((2, 0, 0, 0, 0, 0, 0, 2), 1)])
        self.assertEqual(len(blend), 295)
        rows = {letter: [int(letter == name) for name in EIGHT] for letter in EIGHT}
        self.same(led(blend, EIGHT, rows), blend)
        # a becomes a + b: only among the products with h twice there come new ones, a b and b b
        rows["a"] = [1, 1, 0, 0, 0, 0, 0, 0]
        self.same(len(led(blend, EIGHT, rows)), 297)
        more = blend + Blend(EIGHT, [((0, 0, 1, 1, 0, 0, 0, 2), 1), ((0, 0, 0, 0, 1, 1, 0, 2), 1),
                                     ((0, 0, 0, 0, 0, 0, 2, 2), 1)])
        self.same(len(led(more, EIGHT, rows)), 300)
        over = more + Blend(EIGHT, [((0, 0, 0, 0, 0, 0, 1, 3), 1)])
        self.same(len(over), 299)
        self.fails(TooMany("entries", 300), led, over, EIGHT, rows)

    def test_wrong(self):
        for value in no_blends():
            self.fails(InvalidBlend(value), led, value, "ba", None)
            self.fails(InvalidBlend(value), led, rows=None, letters=None, blend=value)
        for value in NO_LETTERS:
            self.fails(InvalidLetters(value), led, PAIR, value, None)
            self.fails(InvalidLetters(value), led, rows={}, letters=value, blend=Blend("ab"))
        good = [1, 2]
        for value in [*ODD_VALUES, {"a": good}, {"a": good, "b": good, "c": good}, {"a": good, "c": good},
                      {"a": good, "b": [1]}, {"a": good, "b": [1, 2, 3]}, {"a": good, "b": [1, -1]},
                      {"a": good, "b": [1, True]}, {"a": good, "b": None}, {"a": good, "b": "12"}, [good, good],
                      [("a", good), ("b", good)], {0: good, 1: good}, {"a": good, "b": {0: 1, 1: 2}},
                      {"a": [Ratio(-1, 3), 1], "b": good}, {"a": good, "ab": good}, {"a": good, True: good}]:
            self.fails(InvalidLeads(value), led, PAIR, "xy", value)
            self.fails(InvalidLeads(value), led, rows=value, letters="ab", blend=Blend("ab"))
        wide = Blend("a", [((8,), 1)])
        self.fails(InvalidLeads({"a": [1] * 7}), led, wide, EIGHT, {"a": [1] * 7})


class AlikeTest(Case):
    def test_as_a_leading(self):
        draw = random.Random(511)
        for blend in blends(512, 60) + LOW[:1] + LOW[2:]:
            if len(blend.letters) > 1:
                letter, other = draw.sample(blend.letters, 2)
                told = self.keeps(alike, blend, letter, other)
                letters = blend.letters.replace(other, "")
                rows = {name: [int(new == name or name == other and new == letter) for new in letters]
                        for name in blend.letters}
                self.same(told, led(blend, letters, rows))
                self.same(told, plain_led(blend, letters, rows))
                self.same(alike(other=other, letter=letter, blend=blend), told)

    def test_crested_stays_crested(self):
        for blend in crested_blends(513, 12):
            if len(blend.letters) > 1:
                for letter, other in (blend.letters[:2], blend.letters[-1] + blend.letters[0]):
                    self.assertIs(is_crested(alike(blend, letter, other)), True)

    def test_product_and_sum(self):
        """A product of two crested ones of the same letters is crested; a sum need not be [52]."""
        found = [blend for blend in crested_blends(514, 30) if blend.letters == "abc"]
        self.assertGreater(len(found), 5)
        for one, two in zip(found, found[1:]):
            if one.degree + two.degree <= 6:
                self.assertIs(is_crested(one * two), True)
        one, two = Blend("ab", [((2, 0), 1)]), Blend("ab", [((0, 2), 1)])
        self.same([is_crested(one), is_crested(two), is_crested(one + two), one + two], [True, True, False, APART])

    def test_edges(self):
        self.same(alike(PAIR, "a", "b"), Blend("a", [((2,), 1)]))
        self.same(alike(APART, "b", "a"), Blend("b", [((2,), 2)]))
        self.same(alike(Blend("ab"), "a", "b"), Blend("a"))
        self.same(alike(Blend("abc", [((0, 2, 0), 1)]), "a", "c"), Blend("ab", [((0, 2), 1)]))


class ExchangedTest(Case):
    def test_twice(self):
        draw = random.Random(521)
        for blend in blends(522, 60) + LOW[:1] + LOW[2:]:
            if len(blend.letters) > 1:
                letter, other = draw.sample(blend.letters, 2)
                told = self.keeps(exchanged, blend, letter, other)
                names = {name: other if name == letter else letter if name == other else name
                         for name in blend.letters}
                self.same(told, blend.called(names))
                self.same(exchanged(blend, other, letter), told)
                self.same(exchanged(told, letter, other), blend)
                self.same(exchanged(other=other, letter=letter, blend=blend), told)
                self.same(is_crested(told), is_crested(blend))

    def test_edges(self):
        self.same(exchanged(SQUARE, "a", "b"), Blend("ab", [((0, 2), 1), ((1, 1), 3)]))
        self.same(exchanged(Blend("abc", [((2, 1, 0), 1)]), "c", "a"), Blend("abc", [((0, 1, 2), 1)]))
        self.same(exchanged(Blend("ab"), "a", "b"), Blend("ab"))


class PassedTest(Case):
    def lots(self, seed, some=False):
        draw = random.Random(seed)
        for _ in range(30):
            many = draw.randint(2, 6)
            yield draw, lot_blend(draw, many, draw.randint(0, many), some)

    def test_shares(self):
        for draw, blend in self.lots(531, True):
            letter, other = draw.sample(blend.letters, 2)
            for share in (0, 1, Ratio(0), Ratio(1), HALF, Ratio(draw.randint(0, 9), 9)):
                told = self.keeps(passed, blend, letter, other, share)
                part = fraction(share)
                wanted = {counts: amount * (1 - part) for counts, amount in terms(blend).items()}
                for counts, amount in terms(exchanged(blend, letter, other)).items():
                    wanted[counts] = wanted.get(counts, 0) + amount * part
                self.same(told, told_by(blend.letters, wanted))
                self.same(passed(share=share, other=other, letter=letter, blend=blend), told)
            self.same(passed(blend, letter, other, 0), blend)
            self.same(passed(blend, letter, other, Ratio(1)), exchanged(blend, letter, other))

    def test_crested_stays_crested(self):
        for draw, blend in self.lots(532):
            for _ in range(3):
                letter, other = draw.sample(blend.letters, 2)
                blend = passed(blend, letter, other, Ratio(draw.randint(0, 7), 7))
                self.assertIs(is_crested(blend), True)
                blend = led(blend, blend.letters, {name: [int(name == new) * draw.randint(1, 9) for new in blend.letters]
                                                   for name in blend.letters})

    def test_with_squares(self):
        """a a, passed by 1/2 for b, would be 1/2 a a + 1/2 b b, which is not crested [53]."""
        half = Blend("ab", [((2, 0), HALF), ((0, 2), HALF)])
        self.assertIs(is_crested(half), False)
        self.assertIs(is_crested(Blend("ab", [((2, 0), 1)])), True)
        self.fails(HasSquares(), passed, Blend("ab", [((2, 0), 1)]), "a", "b", HALF)
        self.fails(HasSquares(), passed, SQUARE, "a", "b", 0)
        self.fails(HasSquares(), passed, Blend("abc", [((1, 1, 1), 1), ((0, 0, 3), 1)]), "a", "b", 1)
        self.fails(InvalidShare(2), passed, SQUARE, "a", "b", 2)

    def test_edges(self):
        self.same(passed(Blend("ab"), "a", "b", HALF), Blend("ab"))
        self.same(passed(Blend("ab", [((0, 0), 5)]), "a", "b", HALF), Blend("ab", [((0, 0), 5)]))
        self.same(passed(Blend("ab", [((1, 0), 1)]), "b", "a", Ratio(1, 3)),
                  Blend("ab", [((1, 0), Ratio(2, 3)), ((0, 1), Ratio(1, 3))]))
        self.same(len(passed(Blend(EIGHT, [(counts, 1) for counts in product((0, 1), repeat=8) if sum(counts) == 4]),
                             "a", "h", HALF)), 70)

    def test_wrong_shares(self):
        for value in NO_SHARES:
            self.fails(InvalidShare(value), passed, PAIR, "a", "b", value)
            self.fails(InvalidShare(value), passed, share=value, other="a", letter="b", blend=SQUARE)


class TwoLettersTest(Case):
    def test_wrong(self):
        for call, rest in ((alike, {}), (exchanged, {}), (passed, {"share": 7})):
            for value in no_blends():
                self.fails(InvalidBlend(value), call, value, None, None, *rest.values())
                self.fails(InvalidBlend(value), call, blend=value, other="c", letter="c", **rest)
            for value in NO_LETTER_OF:
                if value != "b":
                    self.fails(InvalidLetter(value), call, SQUARE, value, None, *rest.values())
                    self.fails(InvalidLetter(value), call, other=value, letter=value, blend=Blend("ab"), **rest)
                self.fails(InvalidLetter(value), call, SQUARE, "b", value, *rest.values())
                self.fails(InvalidLetter(value), call, other=value, letter="b", blend=Blend("ab"), **rest)
            self.fails(InvalidLetter("b"), call, SQUARE, "b", "b", *rest.values())
            self.fails(InvalidLetter("a"), call, Blend("a"), "a", "a", *rest.values())


class AlongNumbersTest(Case):
    def test_letter_by_letter(self):
        draw = random.Random(541)
        for blend in blends(542, 60) + LOW:
            numbers = [draw.choice([0, random_number(draw, 0, 5)]) for _ in blend.letters]
            told = self.keeps(along_numbers, blend, numbers)
            wanted = {}
            for place, number in enumerate(numbers):
                for counts, amount in changed_by(terms(blend), place).items():
                    wanted[counts] = wanted.get(counts, 0) + amount * fraction(number)
            self.same(told, told_by(blend.letters, wanted))
            self.same(along_numbers(numbers=tuple(numbers), blend=blend), told)

    def test_crested_stays_crested(self):
        draw = random.Random(543)
        for blend in crested_blends(544, 15):
            numbers = [draw.choice([0, random_number(draw, 0, 5)]) for _ in blend.letters]
            self.assertIs(is_crested(along_numbers(blend, numbers)), True)

    def test_edges(self):
        self.same(along_numbers(SQUARE, [0, 0]), Blend("ab"))
        self.same(along_numbers(SQUARE, [Ratio(0), 2]), Blend("ab", [((1, 0), 6)]))
        self.same(along_numbers(Blend("ab"), [1, 1]), Blend("ab"))
        self.same(along_numbers(Blend("ab", [((0, 0), 4)]), [1, 1]), Blend("ab"))
        self.same(along_numbers(Blend("ab", [((0, 1), 4)]), (1, HALF)), Blend("ab", [((0, 0), 2)]))

    def test_too_many(self):
        every = all_counts(8, 4)
        fine = Blend(EIGHT, [(counts, 1) for counts in every[:300]])
        self.same(len(along_numbers(fine, [1] * 8)), len({(*one[:at], one[at] - 1, *one[at + 1:]) for one in every[:300]
                                                          for at in range(8) if one[at]}))
        draw = random.Random(545)
        wide = Blend(EIGHT, [(counts, 1) for counts in draw.sample(all_counts(8, 7), 150)])
        less = {(*one[:at], one[at] - 1, *one[at + 1:]) for one, _ in wide.entries() for at in range(8) if one[at]}
        self.assertGreater(len(less), 301)
        self.fails(TooMany("entries", 300), along_numbers, wide, [1] * 8)
        self.same(len(along_numbers(wide, [1] + [0] * 7)), sum(counts[0] > 0 for counts, _ in wide.entries()))

    def test_wrong(self):
        for value in no_blends():
            self.fails(InvalidBlend(value), along_numbers, value, None)
            self.fails(InvalidBlend(value), along_numbers, numbers=[1], blend=value)
        for value in NO_NUMBERS:
            self.fails(InvalidNumbers(value), along_numbers, SQUARE, value)
            self.fails(InvalidNumbers(value), along_numbers, numbers=value, blend=Blend("ab"))


class CutTest(Case):
    def test_cut_away_and_left(self):
        draw = random.Random(551)
        for blend in blends(552, 60) + LOW:
            letter = draw.choice(blend.letters)
            place = blend.letters.index(letter)
            for many in (0, 1, 2, 3, 8, 9, 10 ** 20):
                told = self.keeps(cut, blend, letter, many)
                wanted = {counts: amount for counts, amount in terms(blend).items() if counts[place] <= many}
                self.same(told, told_by(blend.letters, wanted))
                gone = told_by(blend.letters, {counts: amount for counts, amount in terms(blend).items()
                                               if counts not in wanted})
                self.same(told + gone, blend)
                self.same(cut(many=many, letter=letter, blend=blend), told)

    def test_crested_stays_crested(self):
        for blend in crested_blends(553, 12):
            for letter in blend.letters:
                for many in range(3):
                    self.assertIs(is_crested(cut(blend, letter, many)), True)

    def test_edges(self):
        self.same(cut(SQUARE, "b", 0), Blend("ab", [((2, 0), 1)]))
        self.same(cut(SQUARE, "a", 0), Blend("ab"))
        self.same(cut(SQUARE, "a", 1), Blend("ab", [((1, 1), 3)]))
        self.same(cut(Blend("ab"), "a", 0), Blend("ab"))

    def test_wrong(self):
        for value in no_blends():
            self.fails(InvalidBlend(value), cut, value, None, None)
            self.fails(InvalidBlend(value), cut, many=-1, letter="c", blend=value)
        for value in NO_LETTER_OF:
            if value != "b":
                self.fails(InvalidLetter(value), cut, SQUARE, value, None)
                self.fails(InvalidLetter(value), cut, many=-1, letter=value, blend=Blend("ab"))
        for value in [value for value in ODD_VALUES if exact(value) not in map(exact, (0, 1, 7, 10 ** 40))] + [-2, "0"]:
            self.fails(InvalidMany(value), cut, SQUARE, "a", value)
            self.fails(InvalidMany(value), cut, many=value, letter="b", blend=Blend("ab"))


class WholesTest(Case):
    def test_worths(self):
        """What is not crested may become so, but these changes of it are still told exactly."""
        draw = random.Random(561)
        for blend in mixed_blends(562, 5):
            if len(blend.letters) > 1:
                letter, other = draw.sample(blend.letters, 2)
                weights = {name: random_above(draw) for name in blend.letters}
                both = [weights[letter] if name == other else weights[name] for name in blend.letters]
                told = worth(alike(blend, letter, other), [weights[name] for name in blend.letters if name != other])
                self.same(told, ratio(worth_of(terms(blend), both)))
                turned = {**weights, letter: weights[other], other: weights[letter]}
                self.same(worth(exchanged(blend, letter, other), [weights[name] for name in blend.letters]),
                          ratio(Fraction(worth_of(terms(blend), [turned[name] for name in blend.letters]))))
