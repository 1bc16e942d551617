"""Mates, misfits, exchange [24], [25]."""

import random

from onecrest.blends import Blend
from onecrest.errors import InvalidBlend, InvalidCounts, InvalidLetter, TooMany
from onecrest.exchange import exchanges, is_mates, is_misfit, mate, mates, misfit
from onecrest.pieces import apart_way
from onecrest.taken import all_ways, taken
from plain import ODD_VALUES, Case, all_counts, blends, one_thing_changed

PAIRS = Blend("abc", [((1, 1, 0), 1), ((1, 0, 1), 2), ((0, 1, 1), 1)])
GAP = Blend("ab", [((3, 1), 1), ((1, 3), 1)])
LOW = [Blend("ab"), Blend("ab", [((0, 0), 1)]), Blend("ab", [((1, 0), 1)]), Blend("ab", [((1, 0), 1), ((0, 1), 1)]),
       Blend("a", [((8,), 1)])]


def asked(blend):
    """All tuples (counts, other, letter) for which a mate is asked, sorted."""
    products = [counts for counts, _ in blend.entries()]
    return sorted((counts, other, letter) for counts in products for other in products
                  for at, letter in enumerate(blend.letters) if counts[at] > other[at])


def plain_mates(blend, counts, other, letter):
    """All mates, by the words of [24]."""
    held = dict(blend.entries())
    found = []
    for name in blend.letters:
        one, two = dict(zip(blend.letters, counts)), dict(zip(blend.letters, other))
        if two[name] > one[name]:
            one[letter], one[name] = one[letter] - 1, one[name] + 1
            two[letter], two[name] = two[letter] + 1, two[name] - 1
            if tuple(one.values()) in held and tuple(two.values()) in held:
                found.append(name)
    return found


def matroids(seed, many):
    """Products of sums of letters: these exchange."""
    draw = random.Random(seed)
    for _ in range(many):
        letters = "abcde"[:draw.randint(1, 5)]
        blend = Blend(letters, [((0,) * len(letters), 1)])
        for _ in range(draw.randint(1, 3)):
            lot = draw.sample(range(len(letters)), draw.randint(1, len(letters)))
            blend = blend * Blend(letters, [(tuple(int(place == at) for place in range(len(letters))), at + 1)
                                            for at in lot])
        yield blend


def ordinary(seed):
    return blends(seed, 80, most=6) + list(matroids(seed, 30)) + LOW + [PAIRS, GAP]


def is_right_misfit(blend, value):
    if type(value) is not tuple or len(value) != 3 or not all(type(part) in (list, tuple) for part in value[:2]):
        return False
    if any(type(count) is not int for part in value[:2] for count in part) or type(value[2]) is not str:
        return False
    told = (tuple(value[0]), tuple(value[1]), value[2])
    return told in asked(blend) and not plain_mates(blend, *told)


def are_right_mates(blend, value):
    if type(value) is not dict or len(value) != len(asked(blend)):
        return False
    for key, name in value.items():
        if type(key) is not tuple or key not in asked(blend) or type(name) is not str:
            return False
        if any(type(count) is not int for part in key[:2] for count in part):
            return False
        if name not in plain_mates(blend, *key):
            return False
    return True


class MateTest(Case):
    def test_document(self):
        told = [mate(PAIRS, (1, 1, 0), [0, 1, 1], "a"), mate(GAP, (3, 1), (1, 3), "a"), exchanges(PAIRS), misfit(GAP),
                is_misfit(GAP, ((3, 1), (1, 3), "a"))]
        self.same(told, ["c", None, True, ((1, 3), (3, 1), "b"), True])
        self.assertIs(exchanges(Blend("abc", [((2, 0, 0), 1), ((1, 1, 0), 1), ((0, 1, 1), 1)])), False)

    def test_first_mate(self):
        several = 0
        for blend in ordinary(41):
            for counts, other, letter in asked(blend):
                wanted = plain_mates(blend, counts, other, letter)
                self.same(mate(blend, counts, other, letter), wanted[0] if wanted else None)
                several += len(wanted) > 1
        self.assertGreater(several, 20)
        told = mate(letter="a", other=[0, 1, 1], counts=[1, 1, 0], blend=PAIRS)
        self.same(told, "c")

    def test_as_often_is_no_mate(self):
        """A letter that both have as often is none, though both would be products again."""
        every = Blend("abc", [(counts, 1) for counts in all_counts(3, 3)])
        self.same(mate(every, (1, 2, 0), (1, 1, 1), "b"), "c")
        self.same(mate(every, (0, 2, 1), (0, 1, 2), "b"), "c")
        told = mates(every)
        for key in asked(every):
            wanted = plain_mates(every, *key)
            self.same(mate(every, *key), wanted[0])
            for name in "abc":
                self.assertIs(is_mates(every, {**told, key: name}), name in wanted)
        self.assertIs(is_mates(every, {**told, ((1, 2, 0), (1, 1, 1), "b"): "a"}), False)

    def test_wrong(self):
        one, two = (1, 1, 0), [0, 1, 1]
        for value in ODD_VALUES:
            if not isinstance(value, Blend):
                self.fails(InvalidBlend(value), mate, value, one, two, "a")
                self.fails(InvalidBlend(value), mate, value, None, None, None)
                self.fails(InvalidBlend(value), mate, letter=1, other=2, counts=3, blend=value)
            self.fails(InvalidCounts(value), mate, PAIRS, value, two, "a")
            self.fails(InvalidCounts(value), mate, PAIRS, value, None, 5)
            self.fails(InvalidCounts(value), mate, PAIRS, one, value, "a")
            self.fails(InvalidCounts(value), mate, PAIRS, letter=None, other=value, counts=one)
        for value in ((2, 0, 0), (1, 1), (1, 1, 0, 0), (True, 1, 0), (1, 1, False), (1, 1, 1), (0, 0, 0), "110",
                      (-1, 2, 1), {1: 1}):
            self.fails(InvalidCounts(value), mate, PAIRS, value, two, "a")
            self.fails(InvalidCounts(value), mate, PAIRS, one, value, "a")
        for value in [*ODD_VALUES, "b", "c", "d", "A", "ac", ["a"]]:
            if value != "a":
                self.fails(InvalidLetter(value), mate, PAIRS, one, two, value)
                self.fails(InvalidLetter(value), mate, PAIRS, letter=value, other=two, counts=one)
        for letter in "abc":
            self.fails(InvalidLetter(letter), mate, PAIRS, one, one, letter)
        self.fails(InvalidCounts((0, 0)), mate, Blend("ab"), (0, 0), (0, 0), "a")


class MisfitTest(Case):
    def test_first_misfit(self):
        seen = set()
        for blend in ordinary(42):
            lone = [told for told in asked(blend) if not plain_mates(blend, *told)]
            told = self.keeps(misfit, blend)
            self.same(told, lone[0] if lone else None)
            self.assertIs(exchanges(blend), not lone)
            self.assertIs(exchanges(blend=blend), misfit(blend=blend) is None)
            seen.add(not lone)
        self.assertEqual(seen, {True, False})

    def test_edges(self):
        for blend in LOW:
            self.assertIs(exchanges(blend), True)
            self.assertIsNone(misfit(blend))
            self.same(mates(blend), {} if len(blend) < 2 else
                      {((0, 1), (1, 0), "b"): "a", ((1, 0), (0, 1), "a"): "b"})

    def test_facts(self):
        for blend in ordinary(43):
            if exchanges(blend):
                self.assertIsNone(apart_way(blend))
                for way in all_ways(blend):
                    self.assertTrue(exchanges(taken(blend, way)))
        loose = Blend("abc", [((2, 0, 0), 1), ((1, 1, 0), 1), ((0, 1, 1), 1)])
        self.assertIsNone(apart_way(loose))
        self.assertFalse(exchanges(loose))

    def test_judge(self):
        for blend in ordinary(44)[:60] + [GAP]:
            for told in asked(blend)[:8]:
                wanted = not plain_mates(blend, *told)
                self.assertIs(is_misfit(blend, told), wanted)
                self.assertIs(is_misfit(value=(list(told[0]), list(told[1]), told[2]), blend=blend), wanted)
            told = misfit(blend)
            if told is not None:
                self.assertIs(is_misfit(blend, told), True)
                self.assertIs(is_misfit(blend, list(told)), False)
                for value in one_thing_changed(told):
                    self.assertIs(is_misfit(blend, value), is_right_misfit(blend, value), (blend, value))
        for value in (((3, 1), (1, 3), "b"), ((3, 1), (3, 1), "a"), ((3, True), (1, 3), "a"), ((3, 1), (1, 3), "ab"),
                      ((3, 1), (2, 2), "a"), ((2, 2), (1, 3), "a"), ((3, 1), (1, 3), ""), ((3, 1), (1, 3), 0)):
            self.assertIs(is_misfit(GAP, value), False)
        self.judges(lambda value: is_misfit(GAP, value), [])
        self.judges(lambda value: is_misfit(Blend("ab"), value), [])

    def test_wrong(self):
        for value in ODD_VALUES:
            if not isinstance(value, Blend):
                for call in (exchanges, misfit, mates):
                    self.fails(InvalidBlend(value), call, value)
                    self.fails(InvalidBlend(value), call, blend=value)
                for call in (is_misfit, is_mates):
                    self.fails(InvalidBlend(value), call, value, None)
                    self.fails(InvalidBlend(value), call, value={}, blend=value)


class MatesTest(Case):
    def test_mates(self):
        for blend in ordinary(45):
            if exchanges(blend) and len(asked(blend)) > 1000:
                continue
            told = self.keeps(mates, blend)
            if not exchanges(blend):
                self.assertIsNone(told)
                continue
            self.assertIs(type(told), dict)
            self.assertEqual(list(told), asked(blend))
            for key, name in told.items():
                self.assertIn(name, plain_mates(blend, *key))
            self.assertIs(is_mates(blend, told), True)
            self.assertIs(is_mates(value=dict(reversed(list(told.items()))), blend=blend), True)

    def test_judge(self):
        for blend in [PAIRS, GAP, *LOW, *list(matroids(46, 12))]:
            told = None if len(asked(blend)) > 1000 else mates(blend)
            if told is None:
                continue
            every = {key: plain_mates(blend, *key) for key in told}
            last = {key: names[-1] for key, names in every.items()}
            self.assertIs(is_mates(blend, last), True)
            changed = one_thing_changed(told)
            for value in random.Random(len(told)).sample(changed, min(len(changed), 150)):
                self.assertIs(is_mates(blend, value), are_right_mates(blend, value), (blend, value))
            for key in list(told)[:5]:
                for name in blend.letters:
                    self.assertIs(is_mates(blend, {**told, key: name}), name in every[key])
        told = mates(PAIRS)
        key = ((0, 1, 1), (1, 0, 1), "b")
        rest = {other: told[other] for other in told if other != key}
        for wrong in (((False, 1, 1), (1, 0, 1), "b"), ((0, True, 1), (1, 0, 1), "b"), ((0, 1, 1), (1, 0, True), "b")):
            self.assertIs(is_mates(PAIRS, {**rest, wrong: "a"}), False)
        self.assertIs(is_mates(PAIRS, {**rest, key: "a"}), True)
        self.assertIs(is_mates(PAIRS, list(told.items())), False)
        self.assertIs(is_mates(GAP, {((3, 1), (1, 3), "a"): "b", ((1, 3), (3, 1), "b"): "a"}), False)
        self.judges(lambda value: is_mates(PAIRS, value), [])
        self.judges(lambda value: is_mates(GAP, value), [])
        self.judges(lambda value: is_mates(Blend("ab"), value), [{}])
        self.judges(lambda value: is_mates(Blend("ab", [((2, 3), 1)]), value), [{}])

    def test_1000_and_more(self):
        row = Blend("ab", [(counts, 1) for counts in all_counts(2, 8)])
        self.assertEqual(len(mates(row)), 72)
        seen = set()
        for letters, degree in (("abc", 4), ("abc", 5), ("abc", 6), ("abcd", 3), ("abcd", 4), ("abcde", 2),
                                ("abcde", 3), ("abcdef", 2), ("abcdefgh", 2)):
            blend = Blend(letters, [(counts, 1) for counts in all_counts(len(letters), degree)])
            self.assertIs(exchanges(blend), True)
            if len(asked(blend)) > 1000:
                self.fails(TooMany("mates", 1000), mates, blend)
                self.assertIs(is_mates(blend, {}), False)
            else:
                self.assertEqual(list(mates(blend)), asked(blend))
            seen.add(len(asked(blend)) > 1000)
        self.assertEqual(seen, {True, False})

    def test_just_1000_and_one_more(self):
        rows = Blend("abcd", [(counts, 1) for counts in all_counts(4, 4) if counts[2:] == (0, 0)])
        rows = rows * rows.called({"a": "c", "b": "d", "c": "a", "d": "b"})
        self.assertEqual(len(asked(rows)), 1000)
        self.assertEqual(list(mates(rows)), asked(rows))
        bounded = [one for one in all_counts(5, 5) if one[0] <= 1 and one[1] <= 4 and one[2] <= 1 and one[3] <= 4
                   and one[4] <= 2 and one[0] + one[1] <= 3 and sum(one[:4]) <= 4]
        blend = Blend("abcde", [(one, 1) for one in bounded])
        self.assertEqual(len(asked(blend)), 1001)
        self.assertIs(exchanges(blend), True)
        self.fails(TooMany("mates", 1000), mates, blend)

    def test_stuck_ahead_of_too_many(self):
        """A blend that does not exchange has no mates, however many there would be."""
        counts = [one for one in all_counts(4, 5) if one != (1, 1, 1, 2)]
        blend = Blend("abcd", [(one, 1) for one in counts])
        self.assertGreater(len(asked(blend)), 2000)
        self.assertIsNone(mates(blend))
        self.assertIsNotNone(misfit(blend))
