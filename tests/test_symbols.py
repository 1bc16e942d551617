"""Operators, their symbols, what they keep [56] to [58]."""

import random
from itertools import product
from math import comb

from onecrest.blends import Blend
from onecrest.changes import along_numbers, alike, cut, exchanged, passed
from onecrest.errors import (BeyondBounds, InvalidBlend, InvalidBounds, InvalidLetter, InvalidLetters, InvalidMany,
                             InvalidNumbers, InvalidOperator, InvalidShare, TooMany, UnlikeBlends)
from onecrest.judge import is_crested
from onecrest.ratios import Ratio
from onecrest.symbols import (along_operator, applied, cut_operator, is_operator, passed_operator, second_letters,
                              surely_keeps, symbol)
from plain import (ODD_VALUES, Case, all_counts, exact, fraction, one_thing_changed, random_above, random_blend,
                   random_number, terms)
from test_changes import NO_NUMBERS, NO_SHARES, told_by
from test_judge import crested_blends
from test_taken import no_blends

HALF = Ratio(1, 2)
NO_LETTERS = [value for value in ODD_VALUES if value not in ("a", "ab")] + ["aa", "ca", "abcd", "abcdefgh", ["a"], "aB"]
NO_BOUNDS = [value for value in ODD_VALUES] + [[1, 3], [3, 0], [1], [1, 1, 1], [1, True], [1, -1], [1, None], "11",
                                               {0: 1, 1: 1}, [Ratio(1), 1], (1, 10 ** 20)]
WITH_LETTERS = ((along_operator, [[1, 1], [1, 1]]), (cut_operator, [[1, 1], "a", 1]))


def counts_to(bounds):
    return list(product(*[range(bound + 1) for bound in bounds]))


def random_operator(draw, letters, bounds, step, noughts=True):
    """To all counts a random blend whose degree is greater by the step, some of them nought."""
    found = {}
    keys = counts_to(bounds)
    draw.shuffle(keys)
    for counts in keys:
        degree = sum(counts) + step
        nought = not 0 <= degree <= 8 or noughts and draw.random() < 0.2
        found[counts] = Blend(letters) if nought else random_blend(draw, letters, degree, 3)
    return found


def operators(seed, many=60):
    draw = random.Random(seed)
    for _ in range(many):
        letters = "".join(sorted(draw.sample("abcdefwxyz", draw.randint(1, 3))))
        bounds = [draw.randint(0, 2) for _ in letters]
        yield draw, letters, bounds, random_operator(draw, letters, bounds, draw.randint(-2, 2))


def is_right(letters, bounds, value):
    """Whether a value is an operator, by the words of [56]."""
    if type(value) is not dict or sorted(map(exact, value)) != sorted(map(exact, counts_to(bounds))):
        return False
    if not all(type(part) is Blend and part.letters == letters for part in value.values()):
        return False
    return len({part.degree - sum(counts) for counts, part in value.items() if len(part)}) < 2


def plain_symbol(letters, bounds, operator):
    """The dict of the products of the symbol, told as sorted strings of letters."""
    second = [name for name in "abcdefghijklmnopqrstuvwxyz" if name not in letters]
    found = {}
    for counts in counts_to(bounds):
        times, behind = 1, ""
        for place, (count, bound) in enumerate(zip(counts, bounds)):
            times *= comb(bound, count)
            behind += second[place] * (bound - count)
        for more, amount in terms(operator[counts]).items():
            word = "".join(letter * count for letter, count in zip(letters, more)) + behind
            key = "".join(sorted(word))
            found[key] = found.get(key, 0) + amount * times
    return found


def words_of(blend):
    return {"".join(letter * count for letter, count in zip(blend.letters, counts)): amount
            for counts, amount in terms(blend).items()}


class IsOperatorTest(Case):
    def test_right_ones(self):
        seen = set()
        for _, letters, bounds, operator in operators(631):
            self.assertIs(is_operator(letters, bounds, operator), True)
            self.assertIs(is_operator(value=dict(reversed(operator.items())), bounds=tuple(bounds), letters=letters), True)
            seen.add(len(operator))
        self.assertLessEqual({1, 2, 3, 4, 6, 9}, seen)
        nought = Blend("ab")
        self.assertIs(is_operator("ab", [0, 0], {(0, 0): nought}), True)
        self.assertIs(is_operator("ab", [0, 1], {(0, 0): nought, (0, 1): nought}), True)

    def test_degrees(self):
        """One INTEGER, perhaps below 0, by which all degrees are greater; nought goes with each."""
        one, two = Blend("a", [((1,), 1)]), Blend("a", [((2,), 1)])
        none, nought = Blend("a", [((0,), 1)]), Blend("a")
        for value, wanted in (({(0,): one, (1,): two}, True), ({(0,): one, (1,): one}, False),
                              ({(0,): nought, (1,): none}, True), ({(0,): none, (1,): none}, False),
                              ({(0,): nought, (1,): nought}, True), ({(0,): two, (1,): one}, False),
                              ({(0,): two, (1,): nought}, True)):
            self.assertIs(is_operator("a", [1], value), wanted)
        self.assertIs(is_operator("a", [2], {(0,): nought, (1,): none, (2,): one}), True)
        self.assertIs(is_operator("a", [2], {(0,): one, (1,): nought, (2,): one}), False)
        self.assertIs(is_operator("a", [2], {(0,): nought, (1,): nought, (2,): none}), True)

    def test_one_thing_changed(self):
        told = along_operator("ac", [1, 1], [2, 3])
        for value in one_thing_changed(told):
            self.same(is_operator("ac", [1, 1], value), is_right("ac", [1, 1], value))
        some = {**told}
        for other in (Blend("ab", [((0, 1), 1)]), Blend("ac", [((1, 1), 1)]), Blend("acd", [((0, 1, 0), 1)]), Blend("c"),
                      Blend("ac")):
            self.same(is_operator("ac", [1, 1], {**some, (1, 1): other}), other == Blend("ac"))
        self.assertIs(is_operator("ac", [1, 1], {**some, (2, 0): Blend("ac")}), False)
        less = {counts: some[counts] for counts in list(some)[1:]}
        self.assertIs(is_operator("ac", [1, 1], less), False)
        self.assertIs(is_operator("ac", [1, 1], {**less, (2, 0): Blend("ac")}), False)
        for key in ((True, True), (True, 1), (1, True), "11", 11, (1,), (1, 1, 1), None):
            wrong = {counts: some[counts] for counts in some if counts != (1, 1)}
            wrong[key] = some[(1, 1)]
            self.assertIs(is_operator("ac", [1, 1], wrong), False)
        self.assertIs(is_operator("ac", [1, 1], {**less, (False, False): Blend("ac")}), False)
        self.assertIs(is_operator("ac", [1, 1], list(some.items())), False)

    def test_judge(self):
        for bounds in ([1, 1], [0, 0], (2, 1)):
            self.judges(is_operator, [], "ab", bounds)
        self.judges(is_operator, [], "x", [1])

    def test_wrong(self):
        for value in NO_LETTERS:
            self.fails(InvalidLetters(value), is_operator, value, None, None)
            self.fails(InvalidLetters(value), is_operator, value={}, bounds=[3], letters=value)
            self.fails(InvalidLetters(value), second_letters, value)
            self.fails(InvalidLetters(value), second_letters, letters=value)
        for value in NO_BOUNDS:
            self.fails(InvalidBounds(value), is_operator, "ab", value, None)
            self.fails(InvalidBounds(value), is_operator, value={}, bounds=value, letters="ac")


class SymbolTest(Case):
    def test_document(self):
        along = along_operator("ac", [1, 1], [2, 3])
        self.same([second_letters("ac"), symbol("ac", [1, 1], along).entries()[0], surely_keeps("ac", [1, 1], along)],
                  ["bd", ((0, 0, 0, 1), Ratio(2, 1)), True])
        self.same(applied("ac", [1, 1], along, Blend("ac", [((1, 1), 5)])).entries(),
                  [((0, 1), Ratio(10, 1)), ((1, 0), Ratio(15, 1))])

    def test_second_letters(self):
        for letters, wanted in (("ac", "bd"), ("a", "b"), ("z", "a"), ("abc", "def"), ("bdf", "ace"), ("xyz", "abc"),
                                ("acd", "bef")):
            self.same(second_letters(letters), wanted)
            self.same(second_letters(letters=letters), wanted)

    def test_count_by_count(self):
        met = 0
        for _, letters, bounds, operator in operators(641):
            told = self.keeps(symbol, letters, bounds, operator)
            self.same(told.letters, "".join(sorted(letters + second_letters(letters))))
            self.assertEqual(words_of(told), plain_symbol(letters, bounds, operator))
            self.same(symbol(operator=operator, bounds=tuple(bounds), letters=letters), told)
            met += any(name < letters[-1] for name in second_letters(letters))
        self.assertGreater(met, 10)

    def test_edges(self):
        nought = Blend("ac")
        self.same(symbol("ac", [0, 0], {(0, 0): nought}), Blend("abcd"))
        self.same(symbol("ac", [1, 1], {counts: nought for counts in counts_to([1, 1])}), Blend("abcd"))
        self.same(symbol("c", [0], {(0,): Blend("c", [((3,), 2)])}), Blend("ac", [((0, 3), 2)]))
        self.same(symbol("b", [2], {(0,): Blend("b"), (1,): Blend("b", [((1,), 5)]), (2,): Blend("b", [((2,), 7)])}),
                  Blend("ab", [((1, 1), 10), ((0, 2), 7)]))
        # bounds of three letters, all 2
        told = symbol("abc", [2, 2, 2], along_operator("abc", [2, 2, 2], [1, 0, 2]))
        self.same((told.letters, told.degree), ("abcdef", 5))

    def test_degree_8_and_above(self):
        for letters, bounds, degree in (("a", [2], 6), ("ab", [2, 2], 4), ("abc", [2, 2, 2], 2), ("a", [0], 8)):
            for more in (0, 1):
                if degree + more > 8:
                    continue
                operator = {counts: Blend(letters) for counts in counts_to(bounds)}
                first = (0,) * len(letters)
                operator[first] = Blend(letters, [((degree + more, *first[1:]), 1)])
                if more == 0:
                    self.same(symbol(letters, bounds, operator).degree, 8)
                    self.same(surely_keeps(letters, bounds, operator), True)
                else:
                    self.fails(TooMany("degree", 8), symbol, letters, bounds, operator)
                    self.fails(TooMany("degree", 8), surely_keeps, letters, bounds, operator)

    def test_too_many_products(self):
        # all counts to [2, 2, 2] have all products of their degree more 2: far more than 300
        bounds = [2, 2, 2]
        wide = {counts: Blend("abc", [(one, 1) for one in all_counts(3, sum(counts) + 2)]) for counts in counts_to(bounds)}
        self.assertGreater(sum(map(len, wide.values())), 301)
        for call in (symbol, surely_keeps):
            self.fails(TooMany("entries", 300), call, "abc", bounds, wide)
        # the degree comes ahead
        high = {counts: Blend("abc", [(one, 1) for one in all_counts(3, sum(counts) + 3)] if sum(counts) < 6 else [])
                for counts in counts_to(bounds)}
        self.assertGreater(sum(map(len, high.values())), 301)
        self.fails(TooMany("degree", 8), symbol, "abc", bounds, high)
        # a symbol with more than 300 ways
        many = {counts: Blend("abc", [((counts[0] + 1, counts[1] + 1, counts[2]), 1)]) for counts in counts_to(bounds)}
        self.assertEqual((symbol("abc", bounds, many).degree, len(symbol("abc", bounds, many))), (8, 27))
        self.fails(TooMany("ways", 300), surely_keeps, "abc", bounds, many)

    def test_symbols_of_changes(self):
        """The sums "letter and second letter", so often as the bounds tell, changed and cut [58]."""
        draw = random.Random(642)
        for _ in range(25):
            letters = "".join(sorted(draw.sample("abcdexyz", draw.randint(1, 3))))
            bounds = [draw.randint(0, 2) for _ in letters]
            second = second_letters(letters)
            every = "".join(sorted(letters + second))
            sums = [Blend(every, [([int(name == one) for name in every], 1) for one in pair])
                    for pair in zip(letters, second)]
            whole = Blend(every, [([0] * len(every), 1)])
            for part, bound in zip(sums, bounds):
                for _ in range(bound):
                    whole = whole * part
            numbers = [draw.choice([0, random_number(draw, 0, 4)]) for _ in letters]
            along = along_operator(letters, bounds, numbers)
            wide = [numbers[letters.index(name)] if name in letters else 0 for name in every]
            self.same(symbol(letters, bounds, along), along_numbers(whole, wide))
            self.assertIs(surely_keeps(letters, bounds, along), True)
            letter, many = draw.choice(letters), draw.randint(0, 2)
            cutting = cut_operator(letters, bounds, letter, many)
            self.same(symbol(letters, bounds, cutting), cut(whole, letter, many))
            self.assertIs(surely_keeps(letters, bounds, cutting), True)

    def test_passing_keeps(self):
        for letters in ("ab", "cx", "abc", "bde"):
            for share in (0, 1, HALF, Ratio(1, 7)):
                operator = passed_operator(letters, letters[1], letters[0], share)
                self.assertIs(surely_keeps(letters, [1] * len(letters), operator), True)

    def test_keeps_crested(self):
        """An operator with a crested symbol tells crested blends of crested ones within the bounds [57]."""
        draw = random.Random(643)
        met = 0
        for _, letters, bounds, operator in operators(644, 150):
            if sum(bounds) > 4:
                continue
            told = surely_keeps(letters, bounds, operator)
            self.same(told, is_crested(symbol(letters, bounds, operator)))
            self.same(surely_keeps(operator=operator, bounds=tuple(bounds), letters=letters), told)
            if not told:
                continue
            for blend in crested_blends(draw.randint(1, 99), 2):
                if len(blend.letters) == len(letters):
                    names = dict(zip(blend.letters, letters))
                    blend = blend.called(names)
                    if all(count <= bound for counts, _ in blend.entries() for count, bound in zip(counts, bounds)):
                        met += not blend.is_nought
                        self.assertIs(is_crested(applied(letters, bounds, operator, blend)), True)
        self.assertGreater(met, 5)

    def test_does_not_keep(self):
        one = Blend("ab", [((2, 0), 1), ((0, 2), 1)])
        operator = {counts: one if counts == (1, 1) else Blend("ab") for counts in counts_to([1, 1])}
        self.same([is_operator("ab", [1, 1], operator), surely_keeps("ab", [1, 1], operator)], [True, False])

    def test_wrong(self):
        along = along_operator("ac", [1, 1], [2, 3])
        for value in NO_LETTERS:
            for call in (symbol, surely_keeps):
                self.fails(InvalidLetters(value), call, value, None, None)
                self.fails(InvalidLetters(value), call, operator=along, bounds=[1, 3], letters=value)
        for value in NO_BOUNDS:
            for call in (symbol, surely_keeps):
                self.fails(InvalidBounds(value), call, "ac", value, None)
                self.fails(InvalidBounds(value), call, operator=along, bounds=value, letters="ac")
        for value in [*ODD_VALUES, {**along, (1, 2): Blend("ac")}, {**along, (1, 1): Blend("ab")}, list(along)]:
            for call in (symbol, surely_keeps):
                self.fails(InvalidOperator(value), call, "ac", [1, 1], value)
                self.fails(InvalidOperator(value), call, operator=value, bounds=(1, 1), letters="ac")
        self.fails(InvalidOperator(along), symbol, "ac", [1, 2], along)
        self.fails(InvalidOperator(along), symbol, "ab", [1, 1], along)


def blend_within(draw, letters, bounds):
    """A random blend of these letters whose counts are within the bounds."""
    degree = draw.randint(0, sum(bounds))
    every = [counts for counts in counts_to(bounds) if sum(counts) == degree]
    return Blend(letters, [(counts, random_above(draw)) for counts in draw.sample(every, draw.randint(1, len(every)))])


class AppliedTest(Case):
    def test_sum_over_products(self):
        for draw, letters, bounds, operator in operators(651):
            blend = blend_within(draw, letters, bounds)
            told = self.keeps(applied, letters, bounds, operator, blend)
            wanted = {}
            for counts, amount in terms(blend).items():
                for more, factor in terms(operator[counts]).items():
                    wanted[more] = wanted.get(more, 0) + amount * factor
            self.same(told, told_by(letters, wanted))
            self.same(applied(blend=blend, operator=operator, bounds=tuple(bounds), letters=letters), told)
            # sums and multiples are kept
            other = blend_within(draw, letters, bounds)
            if other.degree == blend.degree:
                self.same(applied(letters, bounds, operator, blend + other),
                          told + applied(letters, bounds, operator, other))
            self.same(applied(letters, bounds, operator, blend.scaled(HALF)),
                      told if told.is_nought else told.scaled(HALF))

    def test_changes(self):
        """Along numbers, cutting, passing, exchanging, writing a letter for another one."""
        draw = random.Random(652)
        for _ in range(60):
            letters = "".join(sorted(draw.sample("abcdexyz", draw.randint(2, 3))))
            bounds = [draw.randint(0, 2) for _ in letters]
            blend = blend_within(draw, letters, bounds)
            numbers = [draw.choice([0, random_number(draw, 0, 4)]) for _ in letters]
            along = self.keeps(along_operator, letters, bounds, numbers)
            self.same(along_operator(numbers=tuple(numbers), bounds=tuple(bounds), letters=letters), along)
            self.same(applied(letters, bounds, along, blend), along_numbers(blend, numbers))
            letter, many = draw.choice(letters), draw.randint(0, 2)
            cutting = self.keeps(cut_operator, letters, bounds, letter, many)
            self.same(cut_operator(many=many, letter=letter, bounds=tuple(bounds), letters=letters), cutting)
            self.same(applied(letters, bounds, cutting, blend), cut(blend, letter, many))
            ones = [1] * len(letters)
            lots = blend_within(draw, letters, ones)
            one, two = draw.sample(letters, 2)
            share = Ratio(draw.randint(0, 5), 5)
            passing = self.keeps(passed_operator, letters, one, two, share)
            self.same(passed_operator(share=share, other=two, letter=one, letters=letters), passing)
            self.same(applied(letters, ones, passing, lots), passed(lots, one, two, share))
            single = {counts: Blend(letters, [(counts, 1)]) for counts in counts_to(bounds)}
            self.same(applied(letters, bounds, single, blend), blend)
            turned = {counts: exchanged(part, one, two) for counts, part in single.items()}
            self.same(applied(letters, bounds, turned, blend), exchanged(blend, one, two))
            merged = {counts: alike(part, one, two).widened(letters) for counts, part in single.items()}
            self.same(applied(letters, bounds, merged, blend), alike(blend, one, two).widened(letters))
            for bounded, operator in ((bounds, along), (bounds, cutting), (ones, passing), (bounds, turned),
                                      (bounds, merged)):
                self.assertIs(is_operator(letters, bounded, operator), True)
            for operator in (along, cutting):
                self.same(list(operator), counts_to(bounds))
            self.same(list(passing), counts_to(ones))

    def test_edges(self):
        along = along_operator("ac", [1, 1], [2, 3])
        self.same(applied("ac", [1, 1], along, Blend("ac")), Blend("ac"))
        self.same(applied("ac", [1, 1], along, Blend("ac", [((0, 0), 1)])), Blend("ac"))
        self.same(along_operator("a", [0], [1]), {(0,): Blend("a")})
        self.same(cut_operator("a", [2], "a", 1), {(0,): Blend("a", [((0,), 1)]), (1,): Blend("a", [((1,), 1)]),
                                                   (2,): Blend("a")})
        self.same(cut_operator("ab", [0, 0], "b", 0), {(0, 0): Blend("ab", [((0, 0), 1)])})
        third = Ratio(1, 3)
        self.same(passed_operator("ab", "a", "b", third)[(1, 0)], Blend("ab", [((1, 0), Ratio(2, 3)), ((0, 1), third)]))

    def test_too_many(self):
        every = all_counts(3, 8)
        self.assertEqual(len(every), 45)
        letters, bounds = "abc", [2, 2, 2]
        # at most 45 products have three letters: no operator can tell more than 300
        operator = {counts: Blend(letters, [(one, 1) for one in every]) if sum(counts) == 3 else Blend(letters)
                    for counts in counts_to(bounds)}
        blend = Blend(letters, [(counts, 2) for counts in counts_to(bounds) if sum(counts) == 3])
        self.same(applied(letters, bounds, operator, blend), Blend(letters, [(one, 14) for one in every]))

    def test_wrong(self):
        along = along_operator("ac", [1, 1], [2, 3])
        for value in NO_LETTERS:
            self.fails(InvalidLetters(value), applied, value, None, None, None)
        for value in NO_BOUNDS:
            self.fails(InvalidBounds(value), applied, "ac", value, None, None)
        for value in [*ODD_VALUES, {**along, (1, 1): Blend("ab")}]:
            self.fails(InvalidOperator(value), applied, "ac", [1, 1], value, None)
            self.fails(InvalidOperator(value), applied, blend=Blend("ab"), operator=value, bounds=(1, 1), letters="ac")
        for value in no_blends():
            self.fails(InvalidBlend(value), applied, "ac", [1, 1], along, value)
            self.fails(InvalidBlend(value), applied, blend=value, operator=along, bounds=(1, 1), letters="ac")
        for blend in (Blend("ab"), Blend("a", [((8,), 1)]), Blend("abc", [((0, 2, 0), 1)]), Blend("ad", [((2, 0), 1)])):
            self.fails(UnlikeBlends(), applied, "ac", [1, 1], along, blend)
        for counts in ((2, 0), (0, 2), (3, 5)):
            self.fails(BeyondBounds(), applied, "ac", [1, 1], along, Blend("ac", [(counts, 1)]))
        self.fails(BeyondBounds(), applied, "ac", [1, 1], along, Blend("ac", [((1, 1), 1), ((2, 0), 1)]))


class OperatorsTest(Case):
    def test_wrong_letters_and_bounds(self):
        for value in NO_LETTERS:
            for call, (bounds, *rest) in WITH_LETTERS:
                self.fails(InvalidLetters(value), call, value, bounds, *rest)
                self.fails(InvalidLetters(value), call, value, None, *[None for _ in rest])
            self.fails(InvalidLetters(value), passed_operator, value, None, None, None)
            self.fails(InvalidLetters(value), passed_operator, share=2, other="a", letter="a", letters=value)
        for value in NO_BOUNDS:
            for call, (_, *rest) in WITH_LETTERS:
                self.fails(InvalidBounds(value), call, "ab", value, *rest)
                self.fails(InvalidBounds(value), call, "ab", value, *[None for _ in rest])

    def test_wrong_rest(self):
        for value in NO_NUMBERS:
            self.fails(InvalidNumbers(value), along_operator, "ab", [0, 2], value)
            self.fails(InvalidNumbers(value), along_operator, numbers=value, bounds=(0, 0), letters="ab")
        no_letter = [value for value in ODD_VALUES if value not in ("a", "b")] + ["c", "B", "aa", ["a"]]
        for value in no_letter:
            self.fails(InvalidLetter(value), cut_operator, "ab", [0, 2], value, None)
            self.fails(InvalidLetter(value), cut_operator, many=-1, letter=value, bounds=(0, 0), letters="ab")
            self.fails(InvalidLetter(value), passed_operator, "ab", value, None, None)
            self.fails(InvalidLetter(value), passed_operator, share=None, other="a", letter=value, letters="ab")
            self.fails(InvalidLetter(value), passed_operator, "ab", "a", value, None)
            self.fails(InvalidLetter(value), passed_operator, share=2, other=value, letter="b", letters="ab")
        self.fails(InvalidLetter("a"), passed_operator, "ab", "a", "a", None)
        self.fails(InvalidLetter("a"), passed_operator, "a", "a", "a", HALF)
        for value in [value for value in ODD_VALUES if exact(value) not in map(exact, (0, 1, 7, 10 ** 40))] + [-3]:
            self.fails(InvalidMany(value), cut_operator, "ab", [0, 2], "a", value)
            self.fails(InvalidMany(value), cut_operator, many=value, letter="b", bounds=(0, 0), letters="ab")
        for value in NO_SHARES:
            self.fails(InvalidShare(value), passed_operator, "ab", "a", "b", value)
            self.fails(InvalidShare(value), passed_operator, share=value, other="a", letter="b", letters="abc")
        self.same(fraction(cut_operator("a", [1], "a", 10 ** 40)[(1,)].amount((1,))), fraction(1))
