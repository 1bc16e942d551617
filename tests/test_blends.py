"""LETTERS, Blend: made, asked, added, multiplied, scaled, called otherwise, widened, narrowed [5], [12], [13]."""

import random

from onecrest.blends import Blend, is_letters
from onecrest.errors import (InvalidBlend, InvalidCounts, InvalidEntries, InvalidLetters, InvalidNames, InvalidNumber,
                             TooMany, UnlikeBlends)
from onecrest.ratios import Ratio
from plain import (ODD_VALUES, Case, all_counts, blends, exact, fraction, random_above, random_blend, ratio,
                   spoil, terms, worth_of)

EIGHT = "abcdefgh"


def blend_of(letters, amounts):
    return Blend(letters, [(counts, ratio(amount)) for counts, amount in amounts.items()])


class LettersTest(Case):
    def test_judge(self):
        self.judges(is_letters, ["a", "ab"])
        for value in ("abcdefgh", "z", "az", "bdfhjlnp"):
            self.assertIs(is_letters(value), True)
        for value in ("", "ba", "aa", "aab", "abcdefghi", "aB", "A", "a b", "1", "a1", "a\n", ["a"], ("a", "b"), "-",
                      "`", "{", "a{"):
            self.assertIs(is_letters(value), False)
        self.assertIs(is_letters(value="xyz"), True)


class MadeTest(Case):
    def test_document(self):
        blend = Blend("ab", [((2, 0), 1), ((1, 1), 3)])
        self.same(blend.entries(), [((1, 1), Ratio(3)), ((2, 0), Ratio(1))])
        one, two = Blend("abc", [((1, 1, 0), 1), ([1, 0, 1], 2)]), Blend("abc", [((0, 1, 1), Ratio(1, 2))])
        told = [one.degree, (one + two).amount((0, 1, 1)), (one * two).bears(), two.narrowed(),
                two.called({"a": "z", "b": "y", "c": "x"}).entries()]
        self.same(told, [2, Ratio(1, 2), "abc", Blend("bc", [((1, 1), Ratio(1, 2))]), [((1, 1, 0), Ratio(1, 2))]])

    def test_nought(self):
        for nought in (Blend("abc"), Blend("abc", []), Blend("abc", ()), Blend(letters="abc", entries=[])):
            self.same((nought.letters, nought.degree, nought.is_nought, len(nought)), ("abc", None, True, 0))
            self.same((nought.entries(), nought.bears(), nought.amount([0, 5, 1])), ([], "", Ratio(0)))
            self.assertIsInstance(nought, Blend)

    def test_properties(self):
        for blend in blends(1, 80):
            counts = blend.entries()[0][0]
            self.same((blend.degree, blend.is_nought, len(blend)), (sum(counts), False, len(blend.entries())))
            for name in ("letters", "degree", "is_nought"):
                with self.assertRaises(AttributeError):
                    setattr(blend, name, None)
        self.same((Blend("ab", [((0, 0), 5)]).degree, len(Blend("ab", [((0, 0), 5)]))), (0, 1))
        self.same(Blend(EIGHT, [((1,) * 8, 1), ((8,) + (0,) * 7, 2)]).degree, 8)

    def test_entries_sorted_and_amounts(self):
        draw = random.Random(5)
        for blend in blends(2, 60):
            pairs = blend.entries()
            self.assertEqual(pairs, sorted(pairs, key=lambda pair: pair[0]))
            self.assertTrue(all(type(counts) is tuple and type(amount) is Ratio for counts, amount in pairs))
            draw.shuffle(pairs)
            again = Blend(blend.letters, tuple((list(counts), amount) for counts, amount in pairs))
            self.assertEqual(again, blend)
            self.same(again.entries(), blend.entries())
            for counts, amount in pairs:
                self.same(blend.amount(counts), amount)
                self.same(blend.amount(counts=list(counts)), amount)
            many = len(blend.letters)
            self.same(blend.amount([9] * many), Ratio(0))
            wanted = terms(blend)
            for counts in all_counts(many, blend.degree):
                self.same(blend.amount(counts), ratio(wanted.get(counts, 0)))

    def test_bears(self):
        for blend in blends(3, 60):
            wanted = "".join(letter for at, letter in enumerate(blend.letters)
                             if any(counts[at] for counts, _ in blend.entries()))
            self.same(blend.bears(), wanted)
        self.same(Blend("xyz", [((0, 2, 0), 1)]).bears(), "y")
        self.same(Blend("xyz", [((0, 0, 0), 1)]).bears(), "")

    def test_amount_of_other_values(self):
        blend = Blend("ab", [((1, 1), 1), ((0, 2), 1)])
        for value in [*ODD_VALUES, (True, 1), [1, True], (1, -1), (1,), (1, 1, 0), (Ratio(1), 1), "11", {1: 1, 2: 1}]:
            if exact(value) not in [exact((1, 2))]:
                self.fails(InvalidCounts(value), blend.amount, value)
        self.fails(InvalidCounts(None), blend.amount, counts=None)

    def test_equal(self):
        blend = Blend("ab", [((1, 1), 1), ((0, 2), Ratio(1, 2))])
        self.assertTrue(blend == Blend("ab", (([0, 2], Ratio(2, 4)), ((1, 1), Ratio(1)))))
        for other in (Blend("ac", [((1, 1), 1), ((0, 2), Ratio(1, 2))]), Blend("ab", [((1, 1), 1)]), Blend("ab"),
                      Blend("ab", [((1, 1), 1), ((0, 2), 1)]), Blend("ab", [((1, 1), 1), ((2, 0), Ratio(1, 2))]),
                      blend.entries(), "ab", None, 1, True, Ratio(1)):
            self.assertIs(blend == other, False)
            self.assertIs(other == blend, False)
            self.assertIs(blend != other, True)
        self.assertTrue(Blend("ab") == Blend("ab"))
        self.assertFalse(Blend("ab") == Blend("a"))

    def test_repr(self):
        self.same(repr(Blend("ab", [((1, 1), 3)])), "Blend('ab', [((1, 1), Ratio(3, 1))])")
        self.same(repr(Blend("a")), "Blend('a', [])")
        for blend in blends(4, 20):
            self.assertEqual(eval(repr(blend)), blend)

    def test_not_iterated(self):
        with self.assertRaises(TypeError):
            iter(Blend("ab", [((1, 1), 3)]))

    def test_copies_what_it_is_given(self):
        counts, amount = [1, 1], Ratio(3)
        entries = [(counts, amount)]
        blend = Blend("ab", entries)
        counts[0] = 7
        entries.append(((0, 2), 1))
        self.same(blend.entries(), [((1, 1), Ratio(3))])
        told = blend.entries()
        spoil(told)
        self.same(blend.entries(), [((1, 1), Ratio(3))])
        self.same((len(blend), blend.degree, blend.bears()), (1, 2, "ab"))


class WrongEntriesTest(Case):
    def test_letters(self):
        for value in ODD_VALUES + ["aa", "abcdefghi", ["a"]]:
            if value not in ("a", "ab"):
                self.fails(InvalidLetters(value), Blend, value)
                self.fails(InvalidLetters(value), Blend, value, 5)
                self.fails(InvalidLetters(value), Blend, entries=[1], letters=value)

    def test_entries_no_list(self):
        for value in ODD_VALUES:
            if not isinstance(value, (list, tuple)):
                self.fails(InvalidEntries(None), Blend, "ab", value)
                self.fails(InvalidEntries(None), Blend, entries=value, letters="ab")

    def test_first_wrong_entry(self):
        good = ((1, 1), 1)
        wrong = [*ODD_VALUES, [(0, 2), 1], ((0, 2),), ((0, 2), 1, 1), ((0, 1), 1), ((0, 3), 1), ((0, 2, 0), 1),
                 ((2,), 1), ((True, 1), 1), ((1, 1), 5), ([1, 1], Ratio(1)), ((0, 2), 0), ((0, 2), -1),
                 ((0, 2), Ratio(0)), ((0, 2), Ratio(-1, 2)), ((0, 2), True), ((0, 2), "1"), ((0, 2), None), ("02", 1),
                 ((0, Ratio(2)), 1), ((-1, 3), 1), ({0: 1, 2: 2}, 1), (None, 1), ((0, 2), [1]), (good, good)]
        for value in wrong:
            self.fails(InvalidEntries(1), Blend, "ab", [good, value])
            self.fails(InvalidEntries(1), Blend, "ab", (good, value, value, ((2, 0), 1)))
            self.fails(InvalidEntries(2), Blend, "ab", [good, ((2, 0), 1), value, None])
        for value in [*ODD_VALUES, ((True, 1), 1), ((5, 4), 1), ((9, 0), 1), ((10 ** 30, 0), 1), ((0, 0), 0)]:
            self.fails(InvalidEntries(0), Blend, "ab", [value, good])
        self.same(Blend("ab", [((4, 4), 1), ((8, 0), 1)]).degree, 8)

    def test_300_entries(self):
        counts = all_counts(4, 8)[:150] + all_counts(4, 8)[-15:]
        self.assertEqual(len(Blend("abcd", [(one, 1) for one in counts])), 165)
        counts = [tuple(one) for one in all_counts(6, 5)] + all_counts(6, 5)
        self.assertEqual(len(all_counts(6, 5)), 252)
        self.fails(InvalidEntries(252), Blend, "abcdef", [(one, 1) for one in counts])
        many = all_counts(5, 8)
        self.assertEqual(len(many), 495)
        entries = [(one, 1) for one in many]
        self.assertEqual(len(Blend("abcde", entries[:300])), 300)
        self.fails(TooMany("entries", 300), Blend, "abcde", entries[:301])
        self.fails(InvalidEntries(300), Blend, "abcde", entries[:300] + [entries[0]])
        self.fails(InvalidEntries(300), Blend, "abcde", entries[:300] + [(many[300], 0)])
        self.fails(InvalidLetters("abced"), Blend, "abced", entries[:301])


class SumsTest(Case):
    def test_sums_and_products(self):
        draw = random.Random(7)
        for _ in range(80):
            letters = EIGHT[:draw.randint(1, 4)]
            degree = draw.randint(0, 4)
            one, two = random_blend(draw, letters, degree), random_blend(draw, letters, degree)
            other = random_blend(draw, letters, draw.randint(0, 4))
            wanted = terms(one)
            for counts, amount in terms(two).items():
                wanted[counts] = wanted.get(counts, 0) + amount
            self.assertEqual(one + two, blend_of(letters, wanted))
            wanted = {}
            for counts, amount in terms(one).items():
                for more, factor in terms(other).items():
                    both = tuple(first + second for first, second in zip(counts, more))
                    wanted[both] = wanted.get(both, 0) + amount * factor
            self.assertEqual(one * other, blend_of(letters, wanted))
            self.assertEqual(other * one, one * other)
            weights = [fraction(random_above(draw)) for _ in letters]
            self.assertEqual(worth_of(terms(one + two), weights), worth_of(terms(one), weights) +
                             worth_of(terms(two), weights))
            self.assertEqual(worth_of(terms(one * other), weights), worth_of(terms(one), weights) *
                             worth_of(terms(other), weights))

    def test_nought_goes_with_each(self):
        for blend in [*blends(8, 30), Blend("ab", [((0, 0), 2)])]:
            nought = Blend(blend.letters)
            self.same(nought + blend, blend)
            self.same(blend + nought, blend)
            self.same(nought * blend, nought)
            self.same(blend * nought, nought)
        self.same(Blend("ab") + Blend("ab"), Blend("ab"))
        self.same(Blend("ab") * Blend("ab"), Blend("ab"))

    def test_operands_stay(self):
        one, two = blends(9, 2, letters="abc", degree=2)
        ahead = (repr(one), repr(two))
        one + two, one * two, one.scaled(5)
        self.assertEqual((repr(one), repr(two)), ahead)
        kept = one
        one += two
        self.assertEqual(repr(kept), ahead[0])

    def test_other_values_on_the_right(self):
        blend = Blend("xy", [((1, 1), 1)])
        for value in [value for value in ODD_VALUES if not isinstance(value, Blend)]:
            self.fails(InvalidBlend(value), lambda right: blend + right, value)
            self.fails(InvalidBlend(value), lambda right: blend * right, value)

    def test_unlike_blends(self):
        one, two, wide = Blend("ab", [((1, 1), 1)]), Blend("ab", [((1, 0), 1)]), Blend("abc", [((1, 1, 0), 1)])
        for other in (two, wide, Blend("ac", [((1, 1), 1)]), Blend("abc"), Blend("a")):
            self.fails(UnlikeBlends(), lambda right: one + right, other)
        self.fails(UnlikeBlends(), lambda right: Blend("ab") + right, Blend("abc"))
        for other in (wide, Blend("ac", [((1, 1), 1)]), Blend("abc"), Blend("ac")):
            self.fails(UnlikeBlends(), lambda right: one * right, other)
            self.fails(UnlikeBlends(), lambda right: right * one, other)
        self.fails(UnlikeBlends(), lambda right: Blend("ab", [((8, 0), 1)]) * right, Blend("ac", [((8, 0), 1)]))

    def test_degree_above_8(self):
        five, four = Blend("ab", [((5, 0), 1)]), Blend("ab", [((2, 2), 1)])
        self.fails(TooMany("degree", 8), lambda right: five * right, four)
        self.same((four * four).entries(), [((4, 4), Ratio(1))])
        self.same(five * Blend("ab"), Blend("ab"))
        flat = Blend("ab", [((0, 0), 3)])
        self.same((Blend("ab", [((5, 3), 2)]) * flat).entries(), [((5, 3), Ratio(6))])

    def test_more_than_300_entries(self):
        counts = all_counts(5, 8)
        low, high = ([(one, 1) for one in part] for part in (counts[:300], counts[150:]))
        one, two = Blend("abcde", low), Blend("abcde", high[-200:])
        self.fails(TooMany("entries", 300), lambda right: one + right, two)
        self.assertEqual(len(one + Blend("abcde", low[:200])), 300)
        four = Blend("abcde", [(part, 1) for part in all_counts(5, 4)])
        self.fails(TooMany("entries", 300), lambda right: four * right, four)
        wide = Blend("abcdef", [(part, 1) for part in all_counts(6, 5)])
        self.fails(TooMany("degree", 8), lambda right: wide * right, wide)

    def test_just_300_entries(self):
        counts = [part for part in all_counts(5, 8)][:300]
        one, two = (Blend("abcde", [(part, 1) for part in half]) for half in (counts[:180], counts[120:]))
        self.assertEqual(len(one + two), 300)

    def test_scaled(self):
        for blend in blends(10, 30):
            for number in (1, 7, Ratio(2, 3), Ratio(10 ** 30, 7)):
                wanted = {counts: amount * fraction(number) for counts, amount in terms(blend).items()}
                self.assertEqual(blend.scaled(number), blend_of(blend.letters, wanted))
        self.same(Blend("ab").scaled(number=3), Blend("ab"))

    def test_scaled_by_other_values(self):
        blend = Blend("ab", [((1, 1), 1)])
        right = [exact(value) for value in (1, 7, 10 ** 40, Ratio(1, 2), Ratio(2))]
        for value in [*ODD_VALUES, Ratio(-1, 3)]:
            if exact(value) not in right:
                self.fails(InvalidNumber(value), blend.scaled, value)
                self.fails(InvalidNumber(value), Blend("ab").scaled, value)
                self.fails(InvalidNumber(value), blend.scaled, number=value)


class OtherLettersTest(Case):
    def test_called(self):
        draw = random.Random(11)
        for blend in blends(12, 60):
            names = dict(zip(blend.letters, draw.sample("abcdefghijklmnopqrstuvwxyz", len(blend.letters))))
            told = blend.called(names)
            self.same(told.letters, "".join(sorted(names.values())))
            wanted = {}
            for counts, amount in terms(blend).items():
                often = {names[letter]: count for letter, count in zip(blend.letters, counts)}
                wanted[tuple(often[letter] for letter in told.letters)] = amount
            self.assertEqual(told, blend_of(told.letters, wanted))
            backwards = dict(reversed(list(names.items())))
            self.assertEqual(blend.called(names=backwards), told)
            self.assertEqual(told.called({name: letter for letter, name in names.items()}), blend)

    def test_called_swapped_and_nought(self):
        blend = Blend("ab", [((2, 1), 1)])
        self.same(blend.called({"a": "b", "b": "a"}).entries(), [((1, 2), Ratio(1))])
        self.same(Blend("ab").called({"a": "z", "b": "c"}), Blend("cz"))

    def test_wrong_names(self):
        blend = Blend("ab", [((1, 1), 1)])
        wrong = [*ODD_VALUES, {"a": "x"}, {"a": "x", "b": "x"}, {"a": "x", "b": "y", "c": "z"}, {"a": "x", "c": "y"},
                 {"a": "x", "b": "Y"}, {"a": "x", "b": "yy"}, {"a": "x", "b": ""}, {"a": "x", "b": 1},
                 {"a": "x", "b": True}, {"a": "x", "b": None}, {"a": "x", "b": ["y"]}, [("a", "x"), ("b", "y")],
                 {"a": "x", True: "y"}, {"a": "x", ("b",): "y"}, {"a": ["x"], "b": ["x"]}, {"a": "x", "b": "1"}]
        for value in wrong:
            self.fails(InvalidNames(value), blend.called, value)
            self.fails(InvalidNames(value), Blend("ab").called, names=value)

    def test_widened(self):
        for blend in blends(13, 60):
            letters = "".join(sorted({*blend.letters, *"bkx"}))
            told = blend.widened(letters)
            self.same(told.letters, letters)
            self.same(told.bears(), blend.bears())
            wanted = {}
            for counts, amount in terms(blend).items():
                often = dict(zip(blend.letters, counts))
                wanted[tuple(often.get(letter, 0) for letter in letters)] = amount
            self.assertEqual(told, blend_of(letters, wanted))
            self.same(blend.widened(letters=blend.letters), blend)
        self.same(Blend("b").widened("abc"), Blend("abc"))

    def test_wrong_wider_letters(self):
        blend = Blend("bd", [((1, 1), 1)])
        for value in [*ODD_VALUES, "b", "d", "db", "bcf", "abcdefghi", "bdd", ["b", "d"], "bD"]:
            self.fails(InvalidLetters(value), blend.widened, value)
        self.fails(InvalidLetters("b"), blend.widened, letters="b")

    def test_narrowed(self):
        for blend in blends(14, 60):
            wide = blend.widened("".join(sorted({*blend.letters, *"bkx"})))
            told = wide.narrowed()
            if blend.bears():
                self.same(told, blend.narrowed())
                self.same(told.letters, blend.bears())
                self.same(told.widened(blend.letters), blend)
        self.same(Blend("cde").narrowed(), Blend("c"))
        self.same(Blend("cde", [((0, 0, 0), 4)]).narrowed(), Blend("c", [((0,), 4)]))
        self.same(Blend("c", [((3,), 4)]).narrowed(), Blend("c", [((3,), 4)]))
        self.same(Blend(EIGHT, [((0,) * 7 + (8,), 4)]).narrowed(), Blend("h", [((8,), 4)]))

    def test_objects_stay(self):
        blend = Blend("bd", [((1, 1), 1)])
        names = {"b": "x", "d": "a"}
        blend.called(names), blend.widened("abcd"), blend.narrowed()
        self.same(blend, Blend("bd", [((1, 1), 1)]))
        self.same(names, {"b": "x", "d": "a"})
