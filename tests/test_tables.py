"""Tables, value_at, minors, rank, changed [31], [32], [35], with the facts of [34] on minors and squares."""

import random
from fractions import Fraction
from itertools import combinations, permutations

from onecrest.errors import InvalidDirection, InvalidPlaces, InvalidRows, InvalidTable
from onecrest.ratios import Ratio
from onecrest.squares import squares
from onecrest.tables import changed, is_table, minor, rank, value_at
from plain import ODD_VALUES, Case, exact, fraction, one_thing_changed, random_number, ratio

HANDS = [[0, 1, 1], [1, 0, 1], [1, 1, 0]]
HALF = Ratio(1, 2)
NO_TABLES = [[], (), [[]], [[1], [1]], [[1, 2]], [[1, 2], [3, 4]], [[1, 2], [2]], [[1, 2], [2, 1, 1]], [1, 2], [[True]],
             [[1, True], [1, 1]], [[1, 1], [True, 1]], [[None]], [["1"]], ["1"], "1", [[1, 2], [Ratio(2, 3), 1]],
             {0: [1]}, [{0: 1}], [[1, 2], None], [[[1]]], [[0] * 21] * 21, [range(1)]]


def random_table(draw, size, zero=False, low=-9, high=9):
    rows = [[0] * size for _ in range(size)]
    for i in range(size):
        for j in range(i if zero else i + 1):
            rows[i][j] = rows[j][i] = random_number(draw, low, high)
    return rows


def low_rank(draw, size, many):
    """A table of squares of random forms, so that its rank is at most how many these are."""
    rows = [[Fraction(0)] * size for _ in range(size)]
    for _ in range(many):
        form = [draw.randint(-3, 3) for _ in range(size)]
        number = fraction(random_number(draw))
        for i in range(size):
            for j in range(size):
                rows[i][j] += number * form[i] * form[j]
    return [[ratio(number) for number in row] for row in rows]


def tables(seed, many=40):
    draw = random.Random(seed)
    for _ in range(many):
        size = draw.randint(1, 6)
        yield random_table(draw, size)
        yield random_table(draw, size, zero=True)
        yield low_rank(draw, size, draw.randint(0, size))
        yield random_table(draw, size, low=0, high=1)


def fractions_of(table):
    return [[fraction(number) for number in row] for row in table]


def sign_of(order):
    return (-1) ** sum(one > two for one, two in combinations(order, 2))


def plain_determinant(rows):
    """The sum over all sequences of the columns."""
    total = Fraction(0)
    for order in permutations(range(len(rows))):
        part = Fraction(sign_of(order))
        for row, place in zip(rows, order):
            part *= row[place]
        total += part
    return total


def plain_rank(rows):
    """The number of rows that stay when each is cleared by those ahead of it."""
    kept = []
    for row in fractions_of(rows):
        for lead, other in kept:
            row = [number - row[lead] * more / other[lead] for number, more in zip(row, other)]
        leads = [place for place, number in enumerate(row) if number]
        if leads:
            kept.append((leads[0], row))
    return len(kept)


class IsTableTest(Case):
    def test_judge(self):
        right = [[[0]], ((1,),), [(Ratio(-1, 2),)], HANDS, [[1, 2], (Ratio(2), Ratio(4, 3))], [[1, 2], [2, 1]],
                 [[0] * 20] * 20, tuple([tuple([0] * 20)] * 20)]
        for value in right + list(tables(61, 10)):
            self.assertIs(is_table(value), True)
        for value in NO_TABLES:
            self.assertIs(is_table(value), False)
        self.assertIs(is_table(value=HANDS), True)
        self.judges(is_table, [[[1]]])

    def test_one_thing_changed(self):
        for value in one_thing_changed([[1, 2], [2, Ratio(1, 3)]]):
            lists = all(type(part) in (list, tuple) for part in [value, *value]) if value else False
            wanted = lists and all(type(number) in (int, Ratio) for row in value for number in row) and all(
                len(row) == len(value) for row in value) and fraction(value[0][-1]) == fraction(value[-1][0])
            self.assertIs(is_table(value), bool(wanted), value)

    def test_each_place_is_asked(self):
        draw = random.Random(62)
        for size in (2, 3, 5, 20):
            for _ in range(12):
                table = random_table(draw, size)
                i, j = draw.sample(range(size), 2)
                table[i][j] = table[i][j] + 1
                self.assertIs(is_table(table), False)
                table[i][j] = table[j][i]
                self.assertIs(is_table(table), True)
                table[i][j] = True
                self.assertIs(is_table(table), False)


class ValueTest(Case):
    def test_document(self):
        told = [value_at(HANDS, [1, 1, 1], [1, 0, HALF]), minor(HANDS, [0, 2]), rank(HANDS),
                changed(HANDS, [[1], [1], [2]])]
        self.same(told, [Ratio(3, 1), Ratio(-1, 1), 3, [[Ratio(10, 1)]]])

    def test_value(self):
        draw = random.Random(63)
        for table in tables(64):
            first, second = ([random_number(draw) for _ in table] for _ in range(2))
            wanted = sum(fraction(one) * fraction(table[i][j]) * fraction(two)
                         for i, one in enumerate(first) for j, two in enumerate(second))
            self.same(self.keeps(value_at, table, first, second), ratio(wanted))
            self.same(value_at(table, second, tuple(first)), ratio(wanted))
            self.same(value_at(second=second, first=first, table=tuple(map(tuple, table))), ratio(wanted))

    def test_wrong(self):
        wrong = [value for value in ODD_VALUES if exact(value) != exact((1, 2, 3))]
        wrong += [[1, 2], [1, 2, True], [1, None, 2], "123", [1, 2, "3"], {0: 1, 1: 2, 2: 3}, [1, 2, 3, 4], (1, 2)]
        for value in wrong:
            self.fails(InvalidDirection(value), value_at, HANDS, value, [1, 1, 1])
            self.fails(InvalidDirection(value), value_at, HANDS, value, None)
            self.fails(InvalidDirection(value), value_at, HANDS, (1, HALF, 1), value)
            self.fails(InvalidDirection(value), value_at, second=value, first=[0, 0, 0], table=HANDS)

    def test_wrong_tables(self):
        for value in [value for value in ODD_VALUES if value != [[1]]] + NO_TABLES:
            self.fails(InvalidTable(value), value_at, value, None, None)
            self.fails(InvalidTable(value), minor, value, None)
            self.fails(InvalidTable(value), rank, value)
            self.fails(InvalidTable(value), rank, table=value)
            self.fails(InvalidTable(value), changed, value, None)
            self.fails(InvalidTable(value), squares, value)
            self.fails(InvalidTable(value), minor, places=[0], table=value)
            self.fails(InvalidTable(value), changed, rows=[[1]], table=value)


class MinorTest(Case):
    def test_minors(self):
        for table in tables(65, 20):
            rows = fractions_of(table)
            for many in range(1, len(table) + 1):
                for places in combinations(range(len(table)), many):
                    wanted = plain_determinant([[rows[i][j] for j in places] for i in places])
                    self.same(minor(table, places), ratio(wanted))
            self.same(self.keeps(minor, table, list(range(len(table)))), ratio(plain_determinant(rows)))

    def test_expanded_along_the_first_row(self):
        """By the words of [32], signs turned by turns."""
        def expanded(rows):
            if len(rows) == 1:
                return rows[0][0]
            return sum((-1) ** at * number * expanded([row[:at] + row[at + 1:] for row in rows[1:]])
                       for at, number in enumerate(rows[0]))
        for table in tables(66, 10):
            self.same(minor(table, list(range(len(table)))), ratio(expanded(fractions_of(table))))

    def test_great(self):
        ones = [[1] * 20 for _ in range(20)]
        self.same(minor(ones, list(range(20))), Ratio(0))
        for at in range(20):
            ones[at][at] = 0
        self.same(minor(ones, list(range(20))), Ratio(-19))
        self.same((rank(ones), rank([[0] * 20] * 20), rank([[1] * 20] * 20), rank([[0]]), rank([[HALF]])),
                  (20, 0, 1, 0, 1))
        self.same(minor(places=(19,), table=[[3] * 20] * 20), Ratio(3))

    def test_wrong_places(self):
        wrong = [value for value in ODD_VALUES if value != (1, 2) and value not in ([1], (1,))]
        wrong += [[], (), [3], [0, 3], [-1], [-1, 0], [1, 0], [0, 0], [0, 1, 1], [True], [0, True], [False], [Ratio(1)],
                  [0, Ratio(2)], ["0"], [None], [0, 1, 2, 3], {0: 1}, "0", 0, [[0]], [10 ** 30], range(2), {0}]
        for value in wrong:
            self.fails(InvalidPlaces(value), minor, HANDS, value)
            self.fails(InvalidPlaces(value), minor, places=value, table=HANDS)


class RankTest(Case):
    def test_rank(self):
        seen = set()
        for table in tables(67):
            told = self.keeps(rank, table)
            self.same(told, plain_rank(table))
            full = minor(table, list(range(len(table)))).sign != 0
            self.assertIs(told == len(table), full)
            seen.add((len(table), told))
        self.assertGreater(len(seen), 15)

    def test_great(self):
        draw = random.Random(68)
        for many in (0, 3, 11, 20):
            table = low_rank(draw, 20, many)
            self.same(rank(table), plain_rank(table))
        six = [[Ratio(draw.randint(-999999, 999999), draw.randint(1, 999999)) for _ in range(20)] for _ in range(20)]
        table = [[six[max(i, j)][min(i, j)] for j in range(20)] for i in range(20)]
        self.same(rank(table), 20)


class ChangedTest(Case):
    def test_number_by_number(self):
        draw = random.Random(69)
        for table in tables(70, 25):
            new = draw.randint(1, 6)
            rows = [[random_number(draw) for _ in range(new)] for _ in table]
            told = self.keeps(changed, table, rows)
            self.assertTrue(is_table(told))
            size = range(len(table))
            wanted = [[ratio(sum(fraction(rows[i][j]) * fraction(table[i][l]) * fraction(rows[l][k])
                                 for i in size for l in size)) for k in range(new)] for j in range(new)]
            self.same(told, wanted)
            self.same(changed(rows=tuple(map(tuple, rows)), table=tuple(map(tuple, table))), wanted)
            values = [[random_number(draw) for _ in range(new)] for _ in range(2)]
            old = [[Ratio.total([row[j] * number for j, number in enumerate(value)]) for row in rows]
                   for value in values]
            self.same(value_at(told, *values), value_at(table, *old))

    def test_edges(self):
        self.same(changed([[2]], [[0] * 20]), [[Ratio(0)] * 20] * 20)
        wide = changed([[0] * 20] * 20, [[1]] * 20)
        self.same(wide, [[Ratio(0)]])
        self.same(changed([[1, 0], [0, -1]], [[1, 1], [1, -1]]), [[Ratio(0), Ratio(2)], [Ratio(2), Ratio(0)]])
        self.assertTrue(is_table(changed([[1] * 20] * 20, [[1] * 20] * 20)))

    def test_fact(self):
        """It never has more squares above, nor more below; just as many where nothing is lost."""
        draw = random.Random(71)
        for table in tables(72, 25):
            ahead = above_and_below(table)
            new = draw.randint(1, 6)
            rows = [[draw.randint(-2, 2) for _ in range(new)] for _ in table]
            told = above_and_below(changed(table, rows))
            self.assertTrue(told[0] <= ahead[0] and told[1] <= ahead[1])
            square = [[draw.randint(-2, 2) for _ in table] for _ in table]
            if plain_rank(square) == len(table):
                self.assertEqual(above_and_below(changed(table, square)), ahead)

    def test_wrong_rows(self):
        wrong = [*ODD_VALUES, [[1]], [[1], [1]], [[1]] * 4, [[1], [1], [1, 1]], [[1, 1], [1], [1]], [[], [], []],
                 [[1], [1], []], [[0] * 21] * 3, [[1], [True], [1]], [[1], [None], [1]], ["1", "1", "1"], [1, 1, 1],
                 [[1], [1], "1"], {0: [1], 1: [1], 2: [1]}, [[1], [1], {0: 1}], [[1], [1], None], [None, [1], [1]],
                 [[1], [1], [1.5j]], [[[1]], [[1]], [[1]]], [range(1)] * 3]
        for value in wrong:
            self.fails(InvalidRows(value), changed, HANDS, value)
            self.fails(InvalidRows(value), changed, rows=value, table=HANDS)


def above_and_below(table):
    numbers = [number.sign for number, _ in squares(table)]
    return numbers.count(1), numbers.count(-1)


class SignsOfMinorsTest(Case):
    def test_changes_of_sign(self):
        """As many squares are below as the signs of 1 and the first minors change, if none of these is 0 [34]."""
        seen = set()
        for table in tables(73, 80):
            minors = [minor(table, list(range(many))).sign for many in range(1, len(table) + 1)]
            if 0 not in minors:
                changes = sum(one != two for one, two in zip([1, *minors], minors))
                self.assertEqual(above_and_below(table), (len(table) - changes, changes))
                seen.add(changes)
        self.assertLessEqual({0, 1, 2, 3}, seen)

    def test_none_below(self):
        seen = set()
        draw = random.Random(74)
        positive = [changed([[int(i == j) for j in range(3)] for i in range(3)],
                            [[draw.randint(-2, 2) for _ in range(3)] for _ in range(3)]) for _ in range(20)]
        for table in list(tables(75, 30)) + positive:
            minors = [minor(table, places) for many in range(1, len(table) + 1)
                      for places in combinations(range(len(table)), many)]
            none = all(number.sign >= 0 for number in minors)
            self.assertIs(above_and_below(table)[1] == 0, none)
            seen.add(none)
        self.assertEqual(seen, {True, False})

    def test_one_above(self):
        draw = random.Random(76)
        met = 0
        for _ in range(120):
            size = draw.randint(1, 4)
            table = random_table(draw, size, draw.random() < 0.7, 0, 3)
            if above_and_below(table)[0] <= 1 and all(fraction(table[at][at]) >= 0 for at in range(size)):
                met += 1
                for many in range(1, size + 1):
                    for places in combinations(range(size), many):
                        self.assertIn(minor(table, places).sign, (0, 1 if many % 2 else -1))
        self.assertGreater(met, 40)
