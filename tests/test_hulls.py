"""Reaches, lacking, filled, uneven [26], [27]."""

import random
from itertools import combinations, product

from onecrest.blends import Blend
from onecrest.errors import InvalidBlend, InvalidLot, TooMany
from onecrest.exchange import exchanges
from onecrest.hulls import is_filled, lacking, reach, reaches, uneven
from plain import ODD_VALUES, Case, all_counts, blends, random_blend
from test_exchange import matroids

PAIRS = Blend("abc", [((1, 1, 0), 1), ((1, 0, 1), 2), ((0, 1, 1), 1)])
GAP = Blend("ab", [((3, 1), 1), ((1, 3), 1)])
LOW = [Blend("abc"), Blend("abc", [((0, 0, 0), 1)]), Blend("abc", [((0, 1, 0), 1)]), Blend("a", [((5,), 1)])]


def ordinary(seed):
    return blends(seed, 60, most=6) + list(matroids(seed, 30)) + LOW + [PAIRS, GAP]


def lots_of(letters):
    return sorted("".join(lot) for many in range(1, len(letters) + 1) for lot in combinations(letters, many))


def plain_reach(blend, lot):
    found = [0]
    for counts, _ in blend.entries():
        found.append(sum(count for letter, count in zip(blend.letters, counts) if letter in lot))
    return max(found)


def plain_lacking(blend):
    if blend.is_nought:
        return []
    limits = {lot: plain_reach(blend, lot) for lot in lots_of(blend.letters)}
    found = []
    for counts in all_counts(len(blend.letters), blend.degree):
        often = dict(zip(blend.letters, counts))
        let = all(sum(often[letter] for letter in lot) <= limit for lot, limit in limits.items())
        if let and counts not in dict(blend.entries()):
            found.append(counts)
    return found


def plain_uneven(blend):
    limits = {lot: plain_reach(blend, lot) for lot in ["", *lots_of(blend.letters)]}
    found = []
    for lot, one, two in product(limits, blend.letters, blend.letters):
        if one < two and one not in lot and two not in lot:
            first, second, both = ("".join(sorted(lot + more)) for more in (one, two, one + two))
            if limits[first] + limits[second] < limits[both] + limits[lot]:
                found.append((lot, one, two))
    return sorted(found)


class ReachTest(Case):
    def test_document(self):
        told = [reach(PAIRS, "ac"), reaches(GAP), lacking(GAP), uneven(GAP)]
        self.same(told, [2, {"a": 3, "ab": 4, "b": 3}, [(2, 2)], None])
        self.same(uneven(Blend("abcd", [((1, 1, 0, 0), 1), ((0, 0, 1, 1), 1)])), ("a", "c", "d"))

    def test_reaches(self):
        for blend in ordinary(51):
            told = self.keeps(reaches, blend)
            self.same(told, {lot: plain_reach(blend, lot) for lot in lots_of(blend.letters)})
            self.assertEqual(list(told), sorted(told))
            for lot in told:
                self.same(reach(blend, lot), told[lot])
                self.same(reach(lot=lot, blend=blend), told[lot])
        self.same(list(reaches(blend=Blend("abc"))), ["a", "ab", "abc", "ac", "b", "bc", "c"])
        self.same(reaches(Blend("ab")), {"a": 0, "ab": 0, "b": 0})
        self.assertEqual(len(reaches(Blend("abcdefgh", [((1,) * 8, 1)]))), 255)

    def test_wrong(self):
        for value in ODD_VALUES:
            if not isinstance(value, Blend):
                self.fails(InvalidBlend(value), reach, value, None)
                self.fails(InvalidBlend(value), reach, lot="a", blend=value)
                for call in (reaches, lacking, is_filled, uneven):
                    self.fails(InvalidBlend(value), call, value)
                    self.fails(InvalidBlend(value), call, blend=value)
        for value in [*ODD_VALUES, "c", "aa", "ba", "abc", "aab", ["a"], ("a", "b"), "A", "-"]:
            if value not in ("a", "ab"):
                self.fails(InvalidLot(value), reach, GAP, value)
                self.fails(InvalidLot(value), reach, lot=value, blend=Blend("ab"))


class LackingTest(Case):
    def test_lacking(self):
        seen = set()
        for blend in ordinary(52):
            wanted = plain_lacking(blend)
            self.same(self.keeps(lacking, blend), wanted)
            self.same(lacking(blend=blend), wanted)
            self.assertIs(is_filled(blend), not wanted)
            self.assertIs(is_filled(blend=blend), not wanted)
            seen.add(bool(wanted))
        self.assertEqual(seen, {True, False})

    def test_edges(self):
        for blend in LOW:
            self.same(lacking(blend), [])
            self.assertIs(is_filled(blend), True)
            self.assertIsNone(uneven(blend))
        self.same(lacking(Blend("abc", [((2, 0, 0), 1), ((0, 1, 1), 1)])), [(1, 0, 1), (1, 1, 0)])

    def test_300_and_more(self):
        corners = [tuple(8 * (place == at) for place in range(4)) for at in range(4)]
        blend = Blend("abcd", [(counts, 1) for counts in corners])
        self.same(lacking(blend), [counts for counts in all_counts(4, 8) if counts not in corners])
        corners = [tuple(8 * (place == at) for place in range(5)) for at in range(5)]
        rest = [counts for counts in all_counts(5, 8) if counts not in corners]
        for many in (299, 300, 301):
            blend = Blend("abcde", [(counts, 1) for counts in corners + rest[many:]])
            if many <= 300:
                self.same(lacking(blend), rest[:many])
            else:
                self.fails(TooMany("products", 300), lacking, blend)
            self.assertIs(is_filled(blend), False)
        great = Blend("abcdefgh", [(tuple(8 * (place == at) for place in range(8)), 1) for at in range(8)])
        self.fails(TooMany("products", 300), lacking, great)
        self.assertIs(is_filled(great), False)
        self.assertIsNone(uneven(great))


class UnevenTest(Case):
    def test_first(self):
        seen = set()
        for blend in ordinary(53) + blends(57, 60, letters="abcde", degree=3, most=6):
            every = plain_uneven(blend)
            told = self.keeps(uneven, blend)
            self.same(told, every[0] if every else None)
            self.same(uneven(blend=blend), told)
            seen.add(None if told is None else len(told[0]))
        self.assertEqual(seen, {None, 1, 2})

    def test_empty_lot(self):
        # with the reach 0 it is never uneven: two letters together reach at most what each one reaches
        for blend in blends(54, 300, letters="abcd", degree=3, most=3):
            told = uneven(blend)
            self.same(told, (plain_uneven(blend) or [None])[0])
            self.assertFalse(told is not None and told[0] == "")
        self.assertIsNone(uneven(Blend("ab", [((1, 0), 1), ((0, 1), 1)])))
        self.assertIsNone(uneven(Blend("ab", [((2, 0), 1), ((0, 2), 1)])))

    def test_lots_of_one_and_more(self):
        wide = Blend("abcde", [((1, 1, 1, 0, 0), 1), ((1, 0, 0, 1, 1), 1), ((0, 1, 1, 1, 0), 1), ((0, 1, 1, 0, 1), 1)])
        self.same(uneven(wide), plain_uneven(wide)[0])
        told = uneven(Blend("abcd", [((1, 1, 0, 0), 1), ((0, 0, 1, 1), 1)]).called(dict(zip("abcd", "dcab"))))
        self.same(told, ("a", "c", "d"))

    def test_fact(self):
        """A blend, not nought, exchanges exactly if it is filled, and its reaches are uneven nowhere."""
        draw = random.Random(55)
        seen = set()
        small = [random_blend(draw, "abcd"[:draw.randint(1, 4)], draw.randint(1, 3), 6) for _ in range(300)]
        for blend in small + ordinary(56):
            if not blend.is_nought:
                told = (exchanges(blend), is_filled(blend), uneven(blend) is None)
                self.assertIs(told[0], told[1] and told[2])
                seen.add(told)
        self.assertEqual(seen, {(True, True, True), (False, True, False), (False, False, True), (False, False, False)})
        split = Blend("abcd", [((1, 1, 0, 0), 1), ((0, 0, 1, 1), 1)])
        self.assertIs(is_filled(split), True)
        corner = Blend("abc", [((2, 0, 0), 1), ((0, 1, 1), 1)])
        self.assertEqual((uneven(corner), is_filled(corner)), (None, False))
