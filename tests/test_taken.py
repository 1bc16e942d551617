"""Letters taken out, ways [6], [14]."""

import random
from itertools import combinations_with_replacement, permutations

from onecrest.blends import Blend
from onecrest.errors import InvalidBlend, InvalidMany, InvalidWay, TooMany
from onecrest.ratios import Ratio
from onecrest.taken import all_ways, is_way, taken, ways
from plain import ODD_VALUES, Case, all_counts, blends, changed_by, exact, random_blend, terms

GAP = Blend("ab", [((3, 1), 1), ((1, 3), 1)])


def no_blends():
    return [value for value in ODD_VALUES if not isinstance(value, Blend)]


def plain_taken(blend, letters):
    amounts = terms(blend)
    for letter in letters:
        amounts = changed_by(amounts, blend.letters.index(letter))
    return amounts


def plain_ways(blend, many):
    every = ["".join(way) for way in combinations_with_replacement(blend.letters, many)]
    return [way for way in every if plain_taken(blend, way)]


class TakenTest(Case):
    def test_document(self):
        told = [taken(GAP, "ab").entries(), ways(GAP, 3), all_ways(GAP)]
        self.same(told, [[((0, 2), Ratio(3, 1)), ((2, 0), Ratio(3, 1))], ["aaa", "aab", "abb", "bbb"],
                         ["", "a", "b", "aa", "ab", "bb"]])

    def test_letter_by_letter(self):
        for blend in blends(21, 50, most=5):
            for many in range(blend.degree + 2):
                for way in combinations_with_replacement(blend.letters, many):
                    told = self.keeps(taken, blend, "".join(way))
                    self.assertEqual(terms(told), plain_taken(blend, way))
                    self.same(told.letters, blend.letters)
                    self.assertTrue(told.is_nought or told.degree == blend.degree - many)

    def test_any_sequence(self):
        for blend in blends(22, 15, degree=4):
            for way in ways(blend, 3):
                told = terms(taken(blend, way))
                for letters in permutations(way):
                    self.assertEqual(plain_taken(blend, letters), told)
                    one_by_one = blend
                    for letter in letters:
                        one_by_one = taken(one_by_one, letter)
                    self.assertEqual(terms(one_by_one), told)

    def test_edges(self):
        self.same(taken(GAP, ""), GAP)
        self.same(taken(GAP, "aaab").entries(), [((0, 0), Ratio(6))])
        for way in ("bbbb", "aabb", "aaaab", "abbbb", "aaaaabbb", "bbbbbbbb"):
            self.same(taken(GAP, way), Blend("ab"))
        self.same(taken(Blend("ab"), "ab"), Blend("ab"))
        self.same(taken(Blend("ab"), ""), Blend("ab"))
        self.same(taken(Blend("a", [((8,), 1)]), "aaaaaaaa").entries(), [((0,), Ratio(40320))])
        self.same(taken(Blend("ab", [((0, 0), 1)]), "a"), Blend("ab"))
        self.same(taken(blend=GAP, way="a").entries(), [((0, 3), Ratio(1)), ((2, 1), Ratio(3))])

    def test_leaves_nought(self):
        for blend in blends(23, 40):
            for way in ("".join(way) for way in combinations_with_replacement(blend.letters, 2)):
                covered = any(all(count >= way.count(letter) for letter, count in zip(blend.letters, counts))
                              for counts, _ in blend.entries())
                self.assertIs(taken(blend, way).is_nought, not covered)

    def test_wrong(self):
        for value in no_blends():
            self.fails(InvalidBlend(value), taken, value, "a")
            self.fails(InvalidBlend(value), taken, value, None)
            self.fails(InvalidBlend(value), taken, way="ba", blend=value)
        for value in [*ODD_VALUES, "c", "abc", "aba", "a" * 9, "bA", ["a"], ("a", "b")]:
            if value not in ("", "a", "ab"):
                self.fails(InvalidWay(value), taken, GAP, value)
                self.fails(InvalidWay(value), taken, way=value, blend=GAP)
                self.fails(InvalidWay(value), taken, Blend("ab"), value)


class IsWayTest(Case):
    def test_judge(self):
        self.judges(lambda value: is_way(GAP, value), ["", "a", "ab"])
        for value in ("aaaaaaaa", "aaaabbbb", "bbbbbbbb", "aab"):
            self.assertIs(is_way(GAP, value), True)
        for value in ("aaaaaaaaa", "aaaabbbbb", "abc", "c", "aba", "AB", "a b", "-", ["a", "b"], ("a",), b"ab"):
            self.assertIs(is_way(GAP, value), False)
        self.assertIs(is_way(Blend("ab"), "bb"), True)
        self.assertIs(is_way(value="b", blend=Blend("bx", [((0, 1), 1)])), True)

    def test_wrong_blend(self):
        for value in no_blends():
            self.fails(InvalidBlend(value), is_way, value, "a")


class WaysTest(Case):
    def test_all_lengths(self):
        for blend in blends(24, 40, most=5):
            for many in range(9):
                self.same(self.keeps(ways, blend, many), plain_ways(blend, many) if many <= 5 else [])

    def test_edges(self):
        for many in range(9):
            self.same(ways(Blend("ab"), many), [])
        flat = Blend("ab", [((0, 0), 3)])
        self.same([ways(flat, many) for many in (0, 1, 8)], [[""], [], []])
        full = Blend("abcdefgh", [((1,) * 8, 1)])
        self.same((ways(full, 8), ways(many=7, blend=full)[0], len(ways(full, 4))), (["abcdefgh"], "abcdefg", 70))
        self.same(ways(Blend("xy", [((0, 2), 1)]), 1), ["y"])

    def test_more_than_300(self):
        many = Blend("abcdefgh", [(counts, 1) for counts in all_counts(8, 4)[:300]])
        self.assertEqual(ways(many, 4), sorted(ways(many, 4)))
        self.assertEqual(len(ways(many, 4)), 300)
        great = Blend("abcdefgh", [(tuple(2 * count for count in counts), 1) for counts in all_counts(8, 4)[:300]])
        self.assertGreater(len(ways(great, 4)), 320)

    def test_wrong(self):
        for value in no_blends():
            self.fails(InvalidBlend(value), ways, value, 1)
            self.fails(InvalidBlend(value), ways, value, None)
        for value in [*ODD_VALUES, 9, Ratio(3)]:
            if exact(value) not in [exact(one) for one in (0, 1, 7)]:
                self.fails(InvalidMany(value), ways, GAP, value)
                self.fails(InvalidMany(value), ways, many=value, blend=Blend("ab"))


class AllWaysTest(Case):
    def test_all(self):
        for blend in blends(25, 60):
            wanted = [way for many in range(blend.degree - 1) for way in plain_ways(blend, many)]
            self.same(self.keeps(all_ways, blend), wanted)

    def test_edges(self):
        self.same(all_ways(Blend("ab")), [])
        self.same(all_ways(Blend("ab", [((0, 0), 1)])), [])
        self.same(all_ways(Blend("ab", [((0, 1), 1)])), [])
        self.same(all_ways(blend=Blend("ab", [((0, 2), 1)])), [""])

    def test_just_300_and_more(self):
        draw = random.Random(26)
        seen = set()
        for _ in range(150):
            blend = random_blend(draw, "abcdefgh"[:draw.randint(5, 8)], draw.randint(5, 8), 30)
            wanted = [way for many in range(blend.degree - 1) for way in plain_levels(blend)[many]]
            if len(wanted) > 300:
                self.fails(TooMany("ways", 300), all_ways, blend)
            else:
                self.same(all_ways(blend), wanted)
            seen.add(len(wanted) > 300)
        self.assertEqual(seen, {True, False})

    def test_the_very_limit(self):
        for counts, many in ((JUST_300, 300), (JUST_301, 301)):
            blend = Blend("abcdefgh", [(one, 1) for one in counts])
            wanted = [way for level in plain_levels(blend)[:-2] for way in level]
            self.assertEqual(len(wanted), many)
            if many == 300:
                self.same(all_ways(blend), wanted)
            else:
                self.fails(TooMany("ways", 300), all_ways, blend)

    def test_wrong(self):
        for value in no_blends():
            self.fails(InvalidBlend(value), all_ways, value)
            self.fails(InvalidBlend(value), all_ways, blend=value)


JUST_300 = [(1, 1, 1, 0, 1, 0, 2, 2), (2, 0, 1, 1, 1, 3, 0, 0), (2, 1, 1, 1, 0, 0, 2, 1)]
JUST_301 = [(0, 1, 1, 2, 1, 1, 2, 0), (1, 2, 2, 1, 0, 0, 0, 2), (2, 2, 0, 2, 1, 0, 0, 1)]


def plain_levels(blend):
    """For each number of letters the sorted ways that some product covers."""
    words = ["".join(letter * count for letter, count in zip(blend.letters, counts)) for counts, _ in blend.entries()]
    levels = [sorted(words)]
    for _ in range(blend.degree):
        levels.append(sorted({word[:at] + word[at + 1:] for word in levels[-1] for at in range(len(word))}))
    return levels[::-1]
