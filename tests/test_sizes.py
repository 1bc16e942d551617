"""Sizes of lots and even rows of them [66]."""

import random
from fractions import Fraction

from onecrest.blends import Blend
from onecrest.errors import InvalidLots, InvalidMany, InvalidRow
from onecrest.judge import is_crested
from onecrest.ratios import Ratio
from onecrest.sizes import is_even_row, size_slacks, sizes
from plain import ODD_VALUES, Case, exact, fraction, random_number, ratio
from test_lots import NO_MANY, TWIG, every_lot, houses, random_lots

NO_ROWS = [value for value in ODD_VALUES if exact(value) not in map(exact, ([1], (1,), (1, 2, 3)))] + [
    [1] * 10, [1, -1], [-1], [Ratio(-1, 9)], [1, True], [1, None], "12", {0: 1}, [[1]], range(3), [0, 1, "1"]]


def rows(seed, many=80):
    draw = random.Random(seed)
    for _ in range(many):
        length = draw.randint(1, 9)
        row = [draw.choice([1, 1, 1, 0]) * random_number(draw, 0, 9) for _ in range(length)]
        yield [1, 2, 1] if length == 3 and draw.random() < 0.2 else row
        # a row that is hardly even, or hardly not: shares that are powers of one number
        share = Fraction(draw.randint(1, 5), draw.randint(1, 5))
        numbers = [Fraction(1)]
        for k in range(length - 1):
            numbers.append(numbers[-1] * share * (length - 1 - k) / (k + 1))
        if draw.random() < 0.5:
            numbers[draw.randrange(length)] *= 1 + Fraction(draw.choice([1, -1]), 100)
        yield [ratio(number) for number in numbers]


def plain_slacks(row):
    n = len(row) - 1
    numbers = [fraction(number) for number in row]
    return [numbers[k] ** 2 - (1 + Fraction(1, k)) * (1 + Fraction(1, n - k)) * numbers[k - 1] * numbers[k + 1]
            for k in range(1, n)]


def plain_even(row):
    gap = any(row[k] == 0 and any(row[:k]) and any(row[k + 1:]) for k in range(len(row)))
    return not gap and all(slack >= 0 for slack in plain_slacks(row))


class SizesTest(Case):
    def test_document(self):
        self.same([sizes(3, TWIG), [str(slack) for slack in size_slacks([1, 3, 2, 0], 3)], is_even_row([1, 0, 0, 1], 3)],
                  [[1, 3, 2, 0], ["3", "4"], False])

    def test_counting(self):
        for _, many, lots in list(random_lots(771, 60)) + list(houses(772)):
            told = self.keeps(sizes, many, lots)
            wanted = [0] * (many + 1)
            for lot in lots:
                wanted[len(lot)] += 1
            self.same(told, wanted)
            self.same(sizes(lots=tuple(lots), many=many), wanted)

    def test_of_houses(self):
        for _, many, lots in houses(773):
            self.assertIs(is_even_row(sizes(many, lots), many), True)

    def test_edges(self):
        self.same([sizes(0, []), sizes(0, [()]), sizes(7, []), sizes(2, [(0, 1)])],
                  [[0], [1], [0] * 8, [0, 0, 1]])
        self.same(sizes(7, every_lot(7)), [1, 7, 21, 35, 35, 21, 7, 1])

    def test_wrong(self):
        for value in NO_MANY:
            self.fails(InvalidMany(value), sizes, value, None)
            self.fails(InvalidMany(value), sizes, lots=[1], many=value)
        for value in [value for value in ODD_VALUES if not isinstance(value, (list, tuple))]:
            self.fails(InvalidLots(None), sizes, 3, value)
            self.fails(InvalidLots(None), sizes, lots=value, many=0)
        for lots, at in (([(), (3,)], 1), ([[0]], 0), ([(0,), (1,), (0,)], 2), ([(1, 0)], 0), ([(True,)], 0)):
            self.fails(InvalidLots(at), sizes, 3, lots)


class EvenRowsTest(Case):
    def test_slacks(self):
        for row in rows(781):
            many = len(row) - 1
            told = self.keeps(size_slacks, row, many)
            self.same(told, [ratio(slack) for slack in plain_slacks(row)])
            self.same(size_slacks(many=many, row=tuple(row)), told)

    def test_even(self):
        seen = set()
        for row in rows(782):
            many = len(row) - 1
            plain = [fraction(number) for number in row]
            told = self.keeps(is_even_row, row, many)
            self.same(told, plain_even(plain))
            self.same(is_even_row(many=many, row=tuple(row)), told)
            seen.add((told, len(row) > 4))
        self.assertEqual(len(seen), 4)

    def test_blend_of_a_row(self):
        """With all things alike a blend of lots is the row's: crested just if the row is even [66], [82]."""
        for row in rows(783, 40):
            many = len(row) - 1
            if 0 < many < 9 and any(fraction(number) for number in row):
                entries = [((k, many - k), number) for k, number in enumerate(row) if fraction(number)]
                self.same(is_crested(Blend("az", entries)), is_even_row(row, many))

    def test_edges(self):
        self.same([size_slacks([5], 0), size_slacks([0], 0), size_slacks([1, 2], 1)], [[], [], []])
        self.same([is_even_row([5], 0), is_even_row([0], 0), is_even_row([1, 2], 1), is_even_row((0, 0, 0), 2)],
                  [True] * 4)
        self.same([is_even_row([0, 0, 1, 1, 1, 0], 5), is_even_row([0, 1, 2, 0, 0], 4), is_even_row([0, 0, 3], 2),
                   is_even_row([3, 0, 0], 2), is_even_row([1, 0, 1], 2), is_even_row([0, 1, 0, 0, 1, 0], 5),
                   is_even_row([1, 0, 0, Ratio(1, 9)], 3)], [False, True, True, True, False, False, False])
        self.same([is_even_row([1, 2, 1], 2), is_even_row([1, Ratio(199, 100), 1], 2), is_even_row([1] * 9, 8)],
                  [True, False, False])
        self.same(size_slacks([1, 2, 1], 2), [Ratio(0)])
        self.same(is_even_row([1, 8, 28, 56, 70, 56, 28, 8, 1], 8), True)

    def test_wrong(self):
        for call in (size_slacks, is_even_row):
            for value in NO_ROWS:
                self.fails(InvalidRow(value), call, value, None)
                self.fails(InvalidRow(value), call, many=1, row=value)
            for value in [value for value in ODD_VALUES if exact(value) != exact(1)] + [2, 3, -1, Ratio(1), 9]:
                self.fails(InvalidMany(value), call, [1, 2], value)
                self.fails(InvalidMany(value), call, many=value, row=(0, 0))
            self.fails(InvalidMany(1), call, [1], 1)
            self.fails(InvalidMany(9), call, [1] * 9, 9)
