"""What several tests share: a plain reckoning with fractions, random blends, odd values, expected errors."""

import copy
import random
import unittest
from fractions import Fraction
from itertools import product

from onecrest.blends import Blend
from onecrest.ratios import Ratio


class Odd:
    """A value of a kind that the package does not know."""


ODD = Odd()
ODD_VALUES = [None, True, False, "", "a", "ab", "ba", "A", "a b", b"a", 0, 1, -1, 7, 10 ** 40, [], (), {}, [1], (1,), [[]],
              ((),), {"a": 1}, {1: "a"}, {1, 2}, [None], [True], ["a"], [[1]], ["a", 1], (1, 2, 3), Ratio(1, 2), Ratio(0),
              Ratio(2), ODD, Odd, len, range(3), Blend("a"), Blend("ab", [((1, 1), 1)]), ValueError("x"), 2j]


def fraction(number):
    """The Fraction of an INTEGER or a Ratio."""
    if isinstance(number, Ratio):
        return Fraction(number.top, number.bottom)
    return Fraction(number)


def ratio(number):
    number = Fraction(number)
    return Ratio(number.numerator, number.denominator)


def terms(blend):
    """The dict from counts to amounts, Fractions."""
    return {counts: fraction(amount) for counts, amount in blend.entries()}


def worth_of(amounts, weights):
    """The worth of a dict of products at any numbers."""
    total = Fraction(0)
    for counts, amount in amounts.items():
        part = Fraction(amount)
        for count, weight in zip(counts, weights):
            part *= fraction(weight) ** count
        total += part
    return total


def changed_by(amounts, place):
    """The change of a dict of products by one letter."""
    found = {}
    for counts, amount in amounts.items():
        if counts[place]:
            less = counts[:place] + (counts[place] - 1,) + counts[place + 1:]
            found[less] = found.get(less, 0) + amount * counts[place]
    return found


def all_counts(many, degree):
    """All counts of so many letters with this degree, sorted."""
    return [counts for counts in product(range(degree + 1), repeat=many) if sum(counts) == degree]


def random_number(draw, low=-9, high=9):
    if draw.random() < 0.5:
        return draw.randint(low, high)
    return Ratio(draw.randint(low * 3, high * 3), draw.randint(1, 9))


def random_above(draw):
    if draw.random() < 0.5:
        return draw.randint(1, 9)
    return Ratio(draw.randint(1, 20), draw.randint(1, 9))


def random_blend(draw, letters=None, degree=None, most=8):
    """A random blend, not nought, perhaps with letters that do not stand."""
    if letters is None:
        letters = "".join(sorted(draw.sample("abcdefghijklmnopqrstuvwxyz", draw.randint(1, 4))))
    if degree is None:
        degree = draw.randint(0, 4)
    found = {}
    for _ in range(draw.randint(1, most)):
        counts = [0] * len(letters)
        for _ in range(degree):
            counts[draw.randrange(len(letters))] += 1
        found[tuple(counts)] = random_above(draw)
    pairs = list(found.items())
    draw.shuffle(pairs)
    return Blend(letters, pairs)


def blends(seed, many=60, **wanted):
    """So many random blends, always the same ones for a seed."""
    draw = random.Random(seed)
    return [random_blend(draw, **wanted) for _ in range(many)]


def exact(value):
    """A text that differs for values of unlike kinds, also inside other values."""
    return f"{type(value).__name__} {value!r}"


class Case(unittest.TestCase):
    def same(self, told, wanted):
        """Equal, and of the same kinds throughout."""
        self.assertEqual(told, wanted)
        self.assertEqual(exact(told), exact(wanted))

    def fails(self, error, call, *passed, **named):
        """The call raises just this error, with the same attributes, and changes nothing that it is passed."""
        ahead = [exact(value) for value in [*passed, *named.values()]]
        with self.assertRaises(type(error)) as caught:
            call(*passed, **named)
        self.assertIs(type(caught.exception), type(error))
        told = {name: exact(value) for name, value in vars(caught.exception).items()}
        self.assertEqual(told, {name: exact(value) for name, value in vars(error).items()})
        self.assertEqual([exact(value) for value in [*passed, *named.values()]], ahead)

    def keeps(self, call, *passed):
        """What the call tells, having made sure that it tells it twice and keeps what it is passed."""
        ahead = [exact(value) for value in passed]
        told = call(*passed)
        text = exact(told)
        inner = [id(part) for part in changeable(told)]
        self.assertEqual(len(inner), len(set(inner)), "a list or a dict stands in it twice")
        self.assertEqual([exact(value) for value in passed], ahead)
        spoil(told)
        again = call(*passed)
        self.assertEqual(exact(again), text)
        self.assertEqual([exact(value) for value in passed], ahead)
        return again

    def judges(self, call, right, *ahead):
        """A judge tells False, a bool, of odd values, unless they are among the right ones."""
        for value in ODD_VALUES:
            wanted = any(exact(value) == exact(one) for one in right)
            self.assertIs(call(*ahead, value), wanted, value)


def changeable(value):
    """All lists and dicts in a value that was told, one for each time that they stand there."""
    found = [value] if isinstance(value, (list, dict)) else []
    if isinstance(value, (list, tuple, dict)):
        for part in value.values() if isinstance(value, dict) else value:
            found += changeable(part)
    return found


def spoil(value):
    """Changes all lists and dicts in a value that was told."""
    if isinstance(value, (list, tuple)):
        for part in value:
            spoil(part)
    if isinstance(value, list):
        value.append("spoilt")
    if isinstance(value, dict):
        for part in value.values():
            spoil(part)
        value["spoilt"] = "spoilt"


def one_thing_changed(value):
    """Copies of a value of lists, tuples and dicts, each with one thing left out, put in or changed in kind."""
    found = []
    if isinstance(value, (list, tuple)):
        kind = type(value)
        for at, part in enumerate(value):
            found.append(kind([*value[:at], *value[at + 1:]]))
            found += [kind([*value[:at], other, *value[at + 1:]]) for other in one_thing_changed(part)]
        found += [kind([*value, other]) for other in (None, 1, "a", ())]
    elif isinstance(value, dict):
        for key in value:
            rest = {other: value[other] for other in value if other != key}
            found.append(rest)
            found += [{**rest, other: value[key]} for other in one_thing_changed(key) if hashable(other)]
            found += [{**rest, key: other} for other in one_thing_changed(value[key])]
        found.append({**value, "more": 1})
    else:
        found += [None, True, False, "", "A", "zz", -1, 10 ** 30, [value], (value,), ODD]
    return [copy.copy(other) for other in found]


def hashable(value):
    if isinstance(value, tuple):
        return all(hashable(part) for part in value)
    return not isinstance(value, (list, dict, set, Ratio, Blend))
