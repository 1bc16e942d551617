"""Pieces, halves, trees, the first way that leaves apart [21], [22], [23]."""

import random
from itertools import combinations

from onecrest.blends import Blend
from onecrest.errors import InvalidBlend, TooMany
from onecrest.pieces import apart_way, halves, is_whole, is_whole_tree, pieces, whole_tree
from onecrest.ratios import Ratio
from onecrest.taken import all_ways, taken
from onecrest.worths import bend, bends_up, slope, worth
from plain import ODD_VALUES, Case, all_counts, blends, one_thing_changed, random_blend

PAIRS = Blend("abc", [((1, 1, 0), 1), ((1, 0, 1), 2), ((0, 1, 1), 1)])
GAP = Blend("ab", [((3, 1), 1), ((1, 3), 1)])
SPLIT = Blend("abc", [((2, 0, 0), 1), ((0, 1, 1), 3)])
LOW = [Blend("abc"), Blend("abc", [((0, 0, 0), 2)]), Blend("abc", [((0, 1, 0), 2)]), Blend("a", [((4,), 1)]),
       Blend("abc", [((0, 1, 0), 2), ((1, 0, 0), 1)]), Blend("abc", [((3, 0, 0), 2), ((0, 0, 3), 1)])]


def letters_of(blend, counts):
    return "".join(letter for letter, count in zip(blend.letters, counts) if count)


def plain_pieces(blend):
    """The least lots of standing letters, not empty, that no product leaves: found by trying all lots."""
    held = [letters_of(blend, counts) for counts, _ in blend.entries()]
    standing = blend.bears()
    closed = []
    for many in range(1, len(standing) + 1):
        for lot in combinations(standing, many):
            if all(set(word) <= set(lot) or not set(word) & set(lot) for word in held):
                closed.append(lot)
    least = [lot for lot in closed if not any(set(other) < set(lot) for other in closed)]
    return sorted("".join(lot) for lot in least)


def sparse(seed, many=150):
    """Random blends of few products, so that many of them are not whole."""
    draw = random.Random(seed)
    found = [random_blend(draw, "abcdefgh"[:draw.randint(1, 8)], draw.randint(0, 4), 4) for _ in range(many)]
    return found + LOW + [PAIRS, GAP, SPLIT]


def is_right_tree(blend, value):
    """Whether a value is a tree, by the words of [22]."""
    if type(value) not in (list, tuple):
        return False
    held = [counts for counts, _ in blend.entries()]
    met = [{letter} for letter in blend.bears()]
    if len(value) != max(0, len(met) - 1):
        return False
    for tie in value:
        if type(tie) is not tuple or len(tie) != 3 or type(tie[2]) not in (list, tuple):
            return False
        if any(type(count) is not int for count in tie[2]) or tuple(tie[2]) not in held:
            return False
        if not all(type(letter) is str and len(letter) == 1 for letter in tie[:2]) or tie[0] == tie[1]:
            return False
        if not all(letter in letters_of(blend, tie[2]) for letter in tie[:2]):
            return False
        joined = [lot for lot in met if lot & set(tie[:2])]
        met = [lot for lot in met if not lot & set(tie[:2])] + [set().union(*joined)]
    return len(met) <= 1


class PiecesTest(Case):
    def test_document(self):
        tree = [("a", "b", (1, 1, 0)), ("c", "b", [0, 1, 1])]
        told = [pieces(SPLIT), is_whole_tree(PAIRS, tree), apart_way(PAIRS), apart_way(GAP)]
        self.same(told, [["a", "bc"], True, None, "ab"])

    def test_pieces(self):
        seen = set()
        for blend in sparse(31):
            wanted = plain_pieces(blend)
            self.same(self.keeps(pieces, blend), wanted)
            self.assertIs(is_whole(blend), len(wanted) <= 1)
            self.same(pieces(blend=blend), wanted)
            seen.add(len(wanted))
        self.assertLessEqual({0, 1, 2, 3}, seen)

    def test_edges(self):
        self.same([pieces(blend) for blend in LOW], [[], [], ["b"], ["a"], ["a", "b"], ["a", "c"]])
        self.assertEqual([is_whole(blend=blend) for blend in LOW], [True] * 4 + [False] * 2)
        chain = Blend("abcde", [((1, 0, 0, 0, 1), 1), ((0, 1, 0, 1, 0), 1), ((0, 1, 0, 0, 1), 1), ((0, 0, 2, 0, 0), 1)])
        self.same(pieces(chain), ["abde", "c"])

    def test_halves(self):
        for blend in sparse(32):
            told = self.keeps(halves, blend)
            lots = plain_pieces(blend)
            if len(lots) <= 1:
                self.assertIsNone(told)
                continue
            self.assertIs(type(told), tuple)
            first, others = told
            self.same(first.letters + others.letters, blend.letters * 2)
            self.same(first.bears(), lots[0])
            self.same(first + others, blend)
            self.assertFalse(set(others.bears()) & set(lots[0]))
            weights = list(range(1, len(blend.letters) + 1))
            self.same(worth(first, weights) + worth(others, weights), worth(blend, weights))
        self.same(halves(blend=SPLIT), (Blend("abc", [((2, 0, 0), 1)]), Blend("abc", [((0, 1, 1), 3)])))

    def test_trees(self):
        for blend in sparse(33):
            tree = self.keeps(whole_tree, blend)
            if not is_whole(blend):
                self.assertIsNone(tree)
                self.assertIs(is_whole_tree(blend, []), False)
                continue
            self.assertIs(type(tree), list)
            self.assertTrue(is_right_tree(blend, tree), (blend, tree))
            self.assertIs(is_whole_tree(blend, tree), True)
            self.assertIs(is_whole_tree(value=tuple(tree), blend=blend), True)
            backwards = [(other, letter, list(counts)) for letter, other, counts in reversed(tree)]
            self.assertIs(is_whole_tree(blend, backwards), True)
            for value in one_thing_changed(tree):
                self.assertIs(is_whole_tree(blend, value), is_right_tree(blend, value), (blend, value))
        self.same(whole_tree(blend=Blend("ab")), [])

    def test_no_trees(self):
        one, two, three = ("a", "b", (1, 1, 0)), ("a", "c", (1, 0, 1)), ("b", "c", (0, 1, 1))
        for value in ([one, two], [two, three], (three, one), [one, ("c", "a", [1, 0, 1])]):
            self.assertIs(is_whole_tree(PAIRS, value), True)
        for value in ([], [one], [one, one], [one, ("b", "a", (1, 1, 0))], [one, two, three], [list(one), two],
                      [one, ("a", "c", (1, 1, 0))], [one, ("c", "a", (1, 1, 0))],
                      [one, ("c", "c", (1, 0, 1))], [one, ("a", "d", (1, 0, 1))], [one, ("d", "a", (1, 0, 1))],
                      [one, ("a", "c", (2, 0, 0))], [one, ("a", "c", "101")], [one, ("a", "c", (True, 0, 1))],
                      [one, ("a", "c", (1, False, 1))], [one, ("a", "c", (1, 0))], [one, ("a", ["c"], (1, 0, 1))],
                      [one, ("a", "", (1, 0, 1))], [one, ("a", "ac", (1, 0, 1))], {one: 1, two: 1}, [one, None],
                      [one, ("a", "c", (1, 0, 1), 1)], [one, ("a", "c")], [one, ("a", "c", {1: 1})]):
            self.assertIs(is_whole_tree(PAIRS, value), False)
        # as many ties as a tree wants, but they make a ring and leave a letter out
        ring = Blend("abcd", [((1, 1, 1, 0), 1), ((0, 0, 1, 2), 1)])
        ties = [("a", "b", (1, 1, 1, 0)), ("b", "c", (1, 1, 1, 0)), ("a", "c", (1, 1, 1, 0))]
        self.assertIs(is_whole_tree(ring, ties), False)
        self.assertIs(is_whole_tree(ring, ties[:2] + [("d", "c", (0, 0, 1, 2))]), True)

    def test_judge(self):
        self.judges(lambda value: is_whole_tree(PAIRS, value), [])
        self.judges(lambda value: is_whole_tree(Blend("ab"), value), [[], ()])
        self.judges(lambda value: is_whole_tree(Blend("a", [((2,), 1)]), value), [[], ()])
        self.judges(lambda value: is_whole_tree(SPLIT, value), [])

    def test_wrong(self):
        for value in ODD_VALUES:
            if not isinstance(value, Blend):
                for call in (pieces, is_whole, halves, whole_tree, apart_way):
                    self.fails(InvalidBlend(value), call, value)
                    self.fails(InvalidBlend(value), call, blend=value)
                self.fails(InvalidBlend(value), is_whole_tree, value, [])
                self.fails(InvalidBlend(value), is_whole_tree, value=5, blend=value)


class ApartTest(Case):
    def test_first_way(self):
        seen = set()
        for blend in sparse(34) + blends(35, 60):
            try:
                every = all_ways(blend)
            except TooMany:
                continue
            apart = [way for way in every if len(plain_pieces(taken(blend, way))) > 1]
            told = apart_way(blend)
            self.same(told, apart[0] if apart else None)
            seen.add(None if told is None else len(told))
        self.assertLessEqual({None, 0, 1, 2}, seen)

    def test_document(self):
        for way in ("", "a", "b"):
            self.assertTrue(is_whole(taken(GAP, way)))
        self.same(taken(GAP, "ab"), Blend("ab", [((2, 0), 3), ((0, 2), 3)]))
        self.same(apart_way(blend=GAP), "ab")

    def test_direction_of_the_fact(self):
        """Where the halves are worth p and q, the direction q, -p, -p .. has no slope and bends up."""
        for blend in sparse(36):
            parts = halves(blend)
            if parts is None or blend.degree < 2:
                continue
            weights = [1] * len(blend.letters)
            p, q = (worth(part, weights) for part in parts)
            direction = [q if letter in parts[0].bears() else -p for letter in blend.letters]
            self.same(slope(blend, weights, direction), Ratio(0))
            self.assertEqual(bend(blend, weights, direction).sign, 1)
            self.assertTrue(bends_up(blend, weights, direction))

    def test_low_degrees(self):
        for blend in LOW[:5]:
            self.assertIsNone(apart_way(blend))
        self.same(apart_way(LOW[5]), "")

    def test_too_many_ways(self):
        many = Blend("abcdefgh", [(counts, 1) for counts in all_counts(8, 8)[:300]])
        self.fails(TooMany("ways", 300), apart_way, many)
        # apart at once, but the ways are counted all the same
        apart = Blend("abcdefgh", [((2, 2, 2, 2, 0, 0, 0, 0), 1), ((0, 0, 0, 0, 2, 2, 2, 2), 1)])
        self.assertFalse(is_whole(apart))
        self.same(apart_way(apart), "")
        counts = [(*one, 0, 0, 0) for one in all_counts(5, 8) if 1 <= min(one) <= max(one) <= 3]
        wide = Blend("abcdefgh", [(one, 1) for one in [*counts, (0, 0, 0, 0, 0, 2, 3, 3)]])
        self.assertFalse(is_whole(wide))
        self.fails(TooMany("ways", 300), apart_way, wide)
