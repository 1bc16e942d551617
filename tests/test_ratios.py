"""NUMBER, share [2] and Ratio [11]."""

import random
from fractions import Fraction

from onecrest.blends import Blend
from onecrest.errors import DividedByZero, InvalidNumber
from onecrest.ratios import Ratio, is_number, is_share
from plain import ODD_VALUES, Case, exact, fraction, ratio

NUMBERS = [Ratio(1, 2), Ratio(0), Ratio(2), 0, 1, -1, 7, 10 ** 40]


def no_numbers():
    wanted = [exact(number) for number in NUMBERS]
    return [value for value in ODD_VALUES if exact(value) not in wanted]


def drawn(seed, many=200):
    """Random Ratios of small and of great tops and bottoms, of any sign."""
    draw = random.Random(seed)
    found = []
    for _ in range(many):
        size = 10 ** draw.choice([1, 1, 2, 6, 60])
        found.append(Ratio(draw.randint(-size, size), draw.choice([-1, 1]) * draw.randint(1, size)))
    return found


class JudgesTest(Case):
    def test_numbers(self):
        self.judges(is_number, NUMBERS)
        self.assertIs(is_number(Ratio(-3, 7)), True)
        self.assertIs(is_number(value=False), False)

    def test_shares(self):
        self.judges(is_share, [Ratio(1, 2), Ratio(0), 0, 1])
        for value, wanted in ((Ratio(1), True), (Ratio(-1, 9), False), (Ratio(9, 8), False), (Ratio(8, 9), True),
                              (2, False), (-1, False), (True, False), (False, False)):
            self.assertIs(is_share(value), wanted)
        self.assertIs(is_share(value=Ratio(1, 3)), True)


class RatioTest(Case):
    def test_document(self):
        told = [Ratio(4, -6), str(Ratio(1, 2) + 3), Ratio(1, 3).is_below(Ratio(2, 5)), is_share(Ratio(3, 2)),
                is_share(1)]
        self.same(told, [Ratio(-2, 3), "7/2", True, False, True])

    def test_lowest_terms(self):
        for top in range(-12, 13):
            for bottom in [*range(-12, 0), *range(1, 13)]:
                made, wanted = Ratio(top, bottom), Fraction(top, bottom)
                self.same((made.top, made.bottom), (wanted.numerator, wanted.denominator))
        self.same((Ratio(0, -7).top, Ratio(0, -7).bottom), (0, 1))
        self.same((Ratio(6).top, Ratio(6).bottom), (6, 1))
        great = Ratio(-6 * 10 ** 90, 4 * 10 ** 89)
        self.same((great.top, great.bottom), (-15, 1))

    def test_by_name(self):
        self.same(Ratio(bottom=4, top=6), Ratio(3, 2))
        half = Ratio(1, 2)
        self.same(half.over(other=2), Ratio(1, 4))
        self.assertIs(half.is_below(other=1), True)
        self.assertIs(half.is_at_most(other=half), True)
        self.same(Ratio.total(numbers=[half, 1]), Ratio(3, 2))

    def test_properties(self):
        for number in drawn(1):
            plain = fraction(number)
            self.same(number.sign, (plain > 0) - (plain < 0))
            self.assertIs(number.is_whole, plain.denominator == 1)
            for name in ("top", "bottom", "sign", "is_whole"):
                with self.assertRaises(AttributeError):
                    setattr(number, name, 1)
        self.assertIs(Ratio(0, 5).is_whole, True)
        self.same([Ratio(0).sign, Ratio(-1, 2).sign, Ratio(1, 2).sign], [0, -1, 1])

    def test_made_of_other_values(self):
        for value in [*no_numbers(), Ratio(1, 2), Ratio(2)]:
            self.fails(InvalidNumber(value), Ratio, value)
            self.fails(InvalidNumber(value), Ratio, 1, value)
            self.fails(InvalidNumber(value), Ratio, value, 0)
            self.fails(InvalidNumber(value), Ratio, value, "later")
            self.fails(InvalidNumber(value), Ratio, bottom=value, top=3)
        self.fails(InvalidNumber(0), Ratio, 1, 0)
        self.fails(InvalidNumber(0), Ratio, 0, 0)
        self.fails(InvalidNumber(True), Ratio, 1, True)
        self.fails(InvalidNumber(False), Ratio, 1, False)

    def test_operators(self):
        numbers = drawn(2, 60) + [Ratio(0), Ratio(1), Ratio(-1)]
        others = drawn(3, 10) + [0, 1, -1, 5, -10 ** 30]
        for one in numbers:
            for two in others:
                left, right = fraction(one), fraction(two)
                self.same(one + two, ratio(left + right))
                self.same(one - two, ratio(left - right))
                self.same(one * two, ratio(left * right))
                self.same(two + one, ratio(right + left))
                self.same(two - one, ratio(right - left))
                self.same(two * one, ratio(right * left))
                self.assertIs(one.is_below(two), left < right)
                self.assertIs(one.is_at_most(two), left <= right)
                if right:
                    self.same(one.over(two), ratio(left / right))
            self.same(-one, ratio(-fraction(one)))
            self.same(one.size(), ratio(abs(fraction(one))))
            self.assertIs(one.is_below(one), False)
            self.assertIs(one.is_at_most(one), True)

    def test_operators_with_other_values(self):
        half = Ratio(1, 2)
        calls = [lambda value: half + value, lambda value: half - value, lambda value: half * value, half.over,
                 half.is_below, half.is_at_most]
        for value in no_numbers():
            for call in calls:
                self.fails(InvalidNumber(value), call, value)
        self.same(half, Ratio(1, 2))

    def test_divided_by_nought(self):
        for value in (0, Ratio(0), Ratio(0, -3)):
            self.fails(DividedByZero(), Ratio(1, 2).over, value)
            self.fails(DividedByZero(), Ratio(0).over, value)

    def test_equal(self):
        self.assertTrue(Ratio(2, 4) == Ratio(1, 2))
        self.assertFalse(Ratio(2, 4) != Ratio(1, 2))
        self.assertFalse(Ratio(1, 2) == Ratio(1, 3))
        self.assertFalse(Ratio(1, 2) == Ratio(3, 2))
        for value in (1, True, "1", None, Fraction(1), Blend("a"), (1, 1)):
            self.assertIs(Ratio(1) == value, False)
            self.assertIs(value == Ratio(1), False)
            self.assertIs(Ratio(1) != value, True)

    def test_total(self):
        for seed in range(10):
            numbers = drawn(seed, 9) + [seed, -3]
            wanted = ratio(sum(fraction(number) for number in numbers))
            self.same(Ratio.total(numbers), wanted)
            self.same(Ratio.total(tuple(numbers)), wanted)
        self.same(Ratio.total([]), Ratio(0))
        self.same(Ratio.total(()), Ratio(0))
        self.same(Ratio.total([3]), Ratio(3))
        self.same(Ratio(5).total([1]), Ratio(1))

    def test_total_of_other_values(self):
        for value in ODD_VALUES:
            if not isinstance(value, (list, tuple)):
                self.fails(InvalidNumber(value), Ratio.total, value)
        for value in no_numbers():
            self.fails(InvalidNumber(value), Ratio.total, [1, Ratio(1, 2), value, None])
            self.fails(InvalidNumber(value), Ratio.total, (value, True))

    def test_texts(self):
        for number, text, shown in ((Ratio(3, 2), "3/2", "Ratio(3, 2)"), (Ratio(-3), "-3", "Ratio(-3, 1)"),
                                    (Ratio(0, 9), "0", "Ratio(0, 1)"), (Ratio(5, -10), "-1/2", "Ratio(-1, 2)")):
            self.same(str(number), text)
            self.same(repr(number), shown)

    def test_numbers_never_change(self):
        one, two = Ratio(3, 4), Ratio(5, 6)
        kept = one
        one += two
        one -= 1
        one *= two
        self.same((kept, two), (Ratio(3, 4), Ratio(5, 6)))
        self.same(one, (Ratio(3, 4) + Ratio(5, 6) - 1) * Ratio(5, 6))
