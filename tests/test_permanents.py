"""Permanents, twins, no-choice papers, even rows [85] to [87]."""

import random
from fractions import Fraction
from itertools import combinations, permutations
from math import factorial, prod

from onecrest.blends import Blend
from onecrest.errors import InvalidPosition, InvalidRows, NotEven
from onecrest.judge import is_crested
from onecrest.permanents import (choice, even_slack, forms_blend, is_even_rows, is_no_choice, no_choice, permanent,
                                 twin_slack)
from onecrest.ratios import Ratio
from plain import ODD_VALUES, Case, exact, fraction, one_thing_changed, random_number, ratio, terms, worth_of

HALF = Ratio(1, 2)
NO_ROWS = [value for value in ODD_VALUES if exact(value) != exact([[1]])] + [
    [[1] * 6] * 6, [[1, 1]], [[1], [1]], [[1, 1], [1]], [[1, 1], [1, -1]], [[1, 1], [1, Ratio(-1, 9)]],
    [[1, 1], [1, True]], [[1, None], [1, 1]], [[1, 1], "ab"], ["ab", "ab"], {0: [1]}, [{0: 1}], [[[1]]], [range(1)],
    [[1, 1], None], [[1, 1], [1, 1], [1, 1]], [[], []]]
CALLS = ((forms_blend, ()), (permanent, ()), (twin_slack, (0, 1)), (no_choice, ()), (is_no_choice, (None,)),
         (is_even_rows, ()), (even_slack, ()))


def squares_of_rows(seed, many=50):
    """Rows of all sizes, some with many noughts, with a row all 0, with a row that is a multiple of another."""
    draw = random.Random(seed)
    yield from ([[0]], [[3]], [[1, 2], [3, 4]], ((1, 2), (2, 4)), [[0, 0], [1, 2]], [[1] * 5 for _ in range(5)])
    for at in range(many):
        size = draw.randint(1, 5)
        full = draw.choice([1, 3, 9])
        rows = [[draw.randint(0, full) and random_number(draw, 0, 9) for _ in range(size)] for _ in range(size)]
        if at % 7 == 0:
            rows[draw.randrange(size)] = [0] * size
        if at % 5 == 0 and size > 1:
            rows[-1] = [ratio(fraction(number) * Fraction(2, 3)) for number in rows[0]]
        yield rows


def even_rows(seed, many=25):
    """Shares of permutations, added up."""
    draw = random.Random(seed)
    for size in range(1, 6):
        yield [[ratio(Fraction(1, size))] * size for _ in range(size)]
        yield [[int(at == place) for at in range(size)] for place in range(size)]
    for _ in range(many):
        size = draw.randint(2, 5)
        shares = [Fraction(draw.randint(1, 9)) for _ in range(draw.randint(1, 6))]
        rows = [[Fraction(0)] * size for _ in range(size)]
        for share in shares:
            for place, column in enumerate(draw.sample(range(size), size)):
                rows[place][column] += share / sum(shares)
        yield [[ratio(number) for number in row] for row in rows]


def plain_permanent(rows):
    return sum(prod(fraction(row[place]) for row, place in zip(rows, places))
               for places in permutations(range(len(rows))))


def shows_none(rows, value):
    """Whether a value is a no-choice paper, by the words of [87]."""
    if type(value) is not tuple or len(value) != 2:
        return False
    for part in value:
        if type(part) not in (list, tuple) or any(type(place) is not int or not 0 <= place < len(rows) for place in part):
            return False
        if list(part) != sorted(set(part)):
            return False
    return len(value[0]) + len(value[1]) > len(rows) and not any(
        fraction(rows[row][column]) for row in value[0] for column in value[1])


class PermanentTest(Case):
    def test_document(self):
        self.same([permanent([[1, 2], [3, 4]]), twin_slack([[1, 2], [3, 4]], 0, 1),
                   even_slack([[HALF, HALF], [HALF, HALF]]), is_no_choice([[0, 0], [1, 2]], ([0], [0, 1]))],
                  [Ratio(10, 1), Ratio(4, 1), Ratio(0, 1), True])

    def test_all_choices(self):
        for rows in squares_of_rows(851):
            told = self.keeps(permanent, rows)
            self.same(told, ratio(plain_permanent(rows)))
            self.same(permanent(rows=tuple(map(tuple, rows))), told)
            self.same(forms_blend(rows).amount([1] * len(rows)), told)
            self.same(permanent([list(column) for column in zip(*rows)]), told)

    def test_forms(self):
        draw = random.Random(852)
        for rows in squares_of_rows(853, 30):
            told = self.keeps(forms_blend, rows)
            self.same(told.letters, "abcde"[:len(rows)])
            self.assertIs(told.is_nought, any(not any(fraction(number) for number in row) for row in rows))
            self.assertIn(told.degree, (None, len(rows)))
            for _ in range(3):
                weights = [random_number(draw, 1, 5) for _ in rows]
                wanted = prod(sum(fraction(one) * fraction(two) for one, two in zip(row, weights)) for row in rows)
                self.assertEqual(worth_of(terms(told), weights), wanted)
            self.same(forms_blend(rows=tuple(map(tuple, rows))), told)
            self.assertTrue(len(rows) == 5 or is_crested(told))

    def test_edges(self):
        self.same([permanent([[0]]), permanent([[Ratio(3, 2)]]), permanent([[0, 0], [1, 2]]), permanent([[1] * 5] * 5)],
                  [Ratio(0), Ratio(3, 2), Ratio(0), Ratio(120)])
        self.same([forms_blend([[0]]), forms_blend([[2]]), forms_blend([[0, 0], [1, 2]])],
                  [Blend("a"), Blend("a", [((1,), 2)]), Blend("ab")])

    def test_wrong(self):
        for value in NO_ROWS:
            for call, rest in CALLS:
                self.fails(InvalidRows(value), call, value, *rest)
            self.fails(InvalidRows(value), permanent, rows=value)
            self.fails(InvalidRows(value), twin_slack, second=0, first=0, rows=value)
            self.fails(InvalidRows(value), is_no_choice, value=([0], [0]), rows=value)


class TwinTest(Case):
    def test_twins(self):
        for rows in squares_of_rows(861):
            for first, second in permutations(range(len(rows)), 2):
                told = self.keeps(twin_slack, rows, first, second)
                one, two = list(rows), list(rows)
                one[second], two[first] = rows[first], rows[second]
                self.same(told, ratio(plain_permanent(rows) ** 2 - plain_permanent(one) * plain_permanent(two)))
                self.same(twin_slack(second=second, first=first, rows=tuple(rows)), told)
                self.assertGreaterEqual(told.sign, 0)

    def test_multiples(self):
        """Rows that are multiples of one another, and other rows whatever: the slack is 0."""
        self.same([twin_slack([[1, 2], [2, 4]], 0, 1), twin_slack([[1, 2, 3], [0, 5, 1], [2, 4, 6]], 2, 0),
                   twin_slack([[0, 0], [1, 2]], 1, 0)], [Ratio(0)] * 3)

    def test_wrong(self):
        rows = [[1, 2, 3], [0, 5, 1], [2, 4, 6]]
        for value in [value for value in ODD_VALUES if exact(value) not in map(exact, (0, 1))] + [3, Ratio(1), "0", [0]]:
            self.fails(InvalidPosition(value), twin_slack, rows, value, None)
            self.fails(InvalidPosition(value), twin_slack, second=value, first=value, rows=rows)
            self.fails(InvalidPosition(value), twin_slack, rows, 2, value)
        for position in (0, 1, 2):
            self.fails(InvalidPosition(position), twin_slack, rows, position, position)
        self.fails(InvalidPosition(1), twin_slack, [[1]], 0, 1)
        self.fails(InvalidPosition(0), twin_slack, [[1]], 0, 0)


class NoChoiceTest(Case):
    def test_just_where_the_permanent_is_nought(self):
        seen = set()
        for rows in squares_of_rows(871, 120):
            told = self.keeps(no_choice, rows)
            none = plain_permanent(rows) == 0
            seen.add((none, len(rows)))
            self.assertIs(told is not None, none)
            self.assertIs(choice(rows) is None, none)
            self.same(no_choice(rows=tuple(map(tuple, rows))), told)
            if none:
                self.assertTrue(shows_none(rows, told))
                self.assertEqual([type(part) for part in told], [list, list])
                self.assertIs(is_no_choice(rows, told), True)
                self.assertIs(is_no_choice(value=tuple(map(tuple, told)), rows=tuple(rows)), True)
            for lot in [part for many in (1, len(rows) - 1) for part in combinations(range(len(rows)), many)]:
                value = (list(lot), list(range(len(rows) + 1 - len(lot))))
                self.same(is_no_choice(rows, value), shows_none(rows, value))
        self.assertGreater(len(seen), 8)

    def test_judge(self):
        for rows in ([[0, 0], [1, 2]], [[0, 1, 0], [0, 1, 0], [1, 1, 1]], [[0]], [[1, 1], [1, 1]]):
            self.judges(is_no_choice, [], rows)
            told = no_choice(rows)
            for value in one_thing_changed(told or ([0], [0, 1])):
                self.same(is_no_choice(rows, value), shows_none(rows, value))
        rows = [[0, 1, 0], [0, 1, 0], [1, 1, 1]]
        self.same([is_no_choice(rows, ([0, 1], [0, 2])), is_no_choice(rows, ([1, 0], [0, 2])),
                   is_no_choice(rows, ([0, 1], [0, 0])), is_no_choice(rows, ([0, 1], [0])),
                   is_no_choice(rows, [[0, 1], [0, 2]]), is_no_choice(rows, ([0, 1], [0, Ratio(2)])),
                   is_no_choice(rows, ([False, True], [0, 2])), is_no_choice(rows, ((0, 1), (0, 2)))],
                  [True, False, False, False, False, False, False, True])


class EvenRowsTest(Case):
    def test_even_rows(self):
        for rows in even_rows(881):
            self.same(self.keeps(is_even_rows, rows), True)
            size = len(rows)
            told = self.keeps(even_slack, rows)
            self.same(told, ratio(plain_permanent(rows) - Fraction(factorial(size), size ** size)))
            self.same([is_even_rows(rows=tuple(map(tuple, rows))), even_slack(rows=tuple(rows))], [True, told])
            alike = all(fraction(number) == Fraction(1, size) for row in rows for number in row)
            self.same(told.sign, 0 if alike else 1)

    def test_others(self):
        for rows in squares_of_rows(882):
            even = all(sum(map(fraction, part)) == 1 for part in [*rows, *zip(*rows)])
            self.same(is_even_rows(rows), even)
            if not even:
                self.fails(NotEven(), even_slack, rows)
                self.fails(NotEven(), even_slack, rows=rows)
        self.same([is_even_rows([[1, 0], [1, 0]]), is_even_rows([[HALF, HALF], [HALF, Ratio(1, 3)]]), is_even_rows([[1]]),
                   even_slack([[1]])], [False, False, True, Ratio(0)])
