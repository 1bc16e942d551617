"""Signs of tables, two above, level directions [34], [36], [37]."""

import random
from itertools import combinations

from onecrest.errors import InvalidTable, InvalidWeights, NotAbove
from onecrest.ratios import Ratio
from onecrest.signs import has_one, is_level, is_never_below, is_two_above, level, signs, two_above
from onecrest.squares import squares
from onecrest.tables import changed, minor
from plain import ODD_VALUES, Case, fraction, one_thing_changed, random_above, random_number, ratio
from test_tables import (HANDS, NO_TABLES, fractions_of, low_rank, plain_determinant, plain_rank, random_table,
                         tables)

BALL = [[2, 1], [1, 2]]
CROSS = [[0, 1], [1, 0]]
NOUGHTS = [[0] * 3] * 3
BAD_TABLES = [value for value in ODD_VALUES if value != [[1]]] + NO_TABLES
PLAIN_CALLS = (signs, has_one, is_never_below, two_above)


def plain_signs(table):
    """Above, below and what lacks in rank, by the changes of sign in the characteristic polynomial (Descartes)."""
    rows, size = fractions_of(table), len(table)
    numbers = [1]
    power = [[0] * size for _ in range(size)]
    for k in range(1, size + 1):
        power = [[sum(rows[i][m] * (power[m][j] + (numbers[-1] if m == j else 0)) for m in range(size))
                  for j in range(size)] for i in range(size)]
        numbers.append(-sum(power[i][i] for i in range(size)) / k)
    lacks = 0
    while numbers[-1] == 0:
        numbers.pop()
        lacks += 1
    held = [number for number in numbers if number]
    above = sum(one * two < 0 for one, two in zip(held, held[1:]))
    return above, size - lacks - above, lacks


def plain_value(table, first, second):
    return sum(fraction(first[i]) * fraction(table[i][j]) * fraction(second[j])
               for i in range(len(table)) for j in range(len(table)))


def is_numbers(value, many):
    return type(value) in (list, tuple) and len(value) == many and all(type(part) in (int, Ratio) for part in value)


def shows_two(table, value):
    """Whether a value shows two above, by the words of [36]."""
    if type(value) is not tuple or len(value) != 2 or not all(is_numbers(part, len(table)) for part in value):
        return False
    first, second = value
    return (plain_value(table, first, first) > 0 and plain_value(table, second, second) > 0
            and plain_value(table, first, second) == 0)


def shows_level(table, weights, value):
    """Whether a value is a level direction, by the words of [37]."""
    return (is_numbers(value, len(table)) and plain_value(table, weights, value) == 0
            and plain_value(table, value, value) > 0)


def many_tables(seed, many=40):
    """Tables of all kinds, and great ones with noughts on the middle line."""
    yield from tables(seed, many)
    yield from (HANDS, BALL, CROSS, NOUGHTS, [[0]], [[5]], [[-5]], [[0, 0], [0, 3]], [[0, -2], [-2, 0]])
    draw = random.Random(seed + 1)
    for size in (7, 9):
        yield random_table(draw, size, zero=True, low=-1, high=1)
        yield low_rank(draw, size, 2)


def digits(value):
    return max(len(str(abs(part))) for number in value for part in (number.top, number.bottom))


class SignsTest(Case):
    def test_document(self):
        self.same([signs(HANDS), has_one(HANDS), two_above(HANDS), level(HANDS, [1, 2, 3]), signs(BALL)],
                  [(1, 2, 0), True, None, None, (2, 0, 0)])
        self.same([is_level(BALL, [1, 1], [1, -1]), has_one([[0, 0], [0, 0]])], [True, True])

    def test_signs(self):
        seen = set()
        for table in many_tables(301):
            told = self.keeps(signs, table)
            self.same(told, plain_signs(table))
            self.same(has_one(table), told[0] <= 1)
            self.same(is_never_below(table), told[1] == 0)
            seen.add((told[0] > 1, told[0] == 1, told[1] > 0, told[2] > 0))
            self.same(signs(table=tuple(map(tuple, table))), told)
            self.same([has_one(table=table), is_never_below(table=table)], [told[0] <= 1, told[1] == 0])
        self.assertGreater(len(seen), 8)

    def test_squares_and_rank(self):
        for table in many_tables(302, 20):
            above = sum(fraction(number) > 0 for number, _ in squares(table))
            self.same(signs(table), (above, len(squares(table)) - above, len(table) - plain_rank(table)))

    def test_changes_of_sign_along_minors(self):
        met = 0
        for table in many_tables(303):
            line = [1] + [minor(table, list(range(k + 1))).sign for k in range(len(table))]
            if 0 not in line:
                met += 1
                below = sum(one != two for one, two in zip(line, line[1:]))
                self.same(signs(table), (len(table) - below, below, 0))
        self.assertGreater(met, 20)

    def test_none_below_by_all_minors(self):
        seen = set()
        for table in many_tables(304, 15):
            if len(table) <= 5:
                rows = fractions_of(table)
                wanted = all(plain_determinant([[rows[i][j] for j in lot] for i in lot]) >= 0
                             for many in range(1, len(rows) + 1) for lot in combinations(range(len(rows)), many))
                self.same(is_never_below(table), wanted)
                seen.add(wanted)
        self.assertEqual(seen, {True, False})

    def test_signs_of_minors_with_one_above(self):
        """Without a number below 0 on the middle line, at most one square above: minors turn their sign by turns."""
        met = 0
        for table in many_tables(305):
            if len(table) <= 6 and has_one(table) and all(fraction(table[i][i]) >= 0 for i in range(len(table))):
                met += 1
                for many in range(1, len(table) + 1):
                    for lot in combinations(range(len(table)), many):
                        self.assertIn(minor(table, list(lot)).sign, (0, 1 if many % 2 else -1))
        self.assertGreater(met, 10)

    def test_other_letters(self):
        """No more above or below, and just as many where as many letters are made of all [35]."""
        draw = random.Random(306)
        for table in many_tables(307, 15):
            many = draw.randint(1, 6)
            rows = [[random_number(draw) for _ in range(many)] for _ in table]
            old, new = signs(table), signs(changed(table, rows))
            self.assertTrue(new[0] <= old[0] and new[1] <= old[1])
            if many == len(table) == plain_rank(rows):
                self.same(new, old)

    def test_edges(self):
        self.same([signs([[7]]), signs([[0]]), signs([[Ratio(-1, 3)]]), signs([[0] * 20] * 20)],
                  [(1, 0, 0), (0, 0, 1), (0, 1, 0), (0, 0, 20)])
        self.same([signs(CROSS), signs([[0, -1], [-1, 0]])], [(1, 1, 0), (1, 1, 0)])
        self.same([is_never_below([[0]]), is_never_below(CROSS), is_never_below([[1, 1], [1, 1]])],
                  [True, False, True])
        ones = [[int(i != j) for j in range(20)] for i in range(20)]
        unit = [[int(i == j) for j in range(20)] for i in range(20)]
        self.same([signs(ones), signs(unit)], [(1, 19, 0), (20, 0, 0)])

    def test_wrong_tables(self):
        for value in BAD_TABLES:
            for call in PLAIN_CALLS:
                self.fails(InvalidTable(value), call, value)
                self.fails(InvalidTable(value), call, table=value)
            self.fails(InvalidTable(value), is_two_above, value, None)
            self.fails(InvalidTable(value), is_two_above, value=([1], [1]), table=value)


class TwoAboveTest(Case):
    def test_two_above(self):
        seen = set()
        for table in many_tables(311):
            told = self.keeps(two_above, table)
            seen.add(told is None)
            if plain_signs(table)[0] < 2:
                self.assertIsNone(told)
                continue
            self.assertIs(type(told), tuple)
            self.assertTrue(all(type(part) is list for part in told))
            self.assertTrue(all(type(number) is Ratio for part in told for number in part))
            self.assertTrue(shows_two(table, told), table)
            self.assertIs(is_two_above(table, told), True)
            self.assertIs(is_two_above(value=tuple(map(tuple, told)), table=table), True)
            self.assertIs(is_two_above(table, list(told)), False)
            whole = [[ratio(fraction(number)) for number in row] for row in table]
            self.same(two_above(table=whole), told)
        self.assertEqual(seen, {True, False})

    def test_great_numbers(self):
        """However the numbers of the table run, none that is told has more than 2,000 digits [2]."""
        draw = random.Random(312)
        for size, late in ((8, False), (20, False), (20, True)):
            table = [[0] * size for _ in range(size)]
            for i in range(size):
                for j in range(i + 1):
                    number = Ratio(draw.randint(-999999, 999999), draw.randint(1, 999999))
                    table[i][j] = table[j][i] = number
                if late:
                    table[i][i] = Ratio(999999 if i > size - 3 else -999999, draw.randint(1, 9))
            told = two_above(table)
            self.assertTrue(shows_two(table, told))
            self.assertLessEqual(max(digits(told[0]), digits(told[1])), 2000)
            weights = [Ratio(draw.randint(1, 999999), draw.randint(1, 999999)) for _ in range(size)]
            if plain_value(table, weights, weights) <= 0:
                weights[-1] = 10 ** 5 * 9
                table[-1][-1] = Ratio(999999)
            told = level(table, weights)
            self.assertTrue(shows_level(table, weights, told))
            self.assertLessEqual(digits(told), 2000)

    def test_near_the_edge(self):
        """Tables whose second square is hardly above nought, or just not."""
        for tiny in (Ratio(1, 999999), Ratio(1, 10 ** 6) * Ratio(1, 10 ** 6)):
            for other in (tiny, -tiny, Ratio(0)):
                table = [[1, 1, 1], [1, 1 + other, 1], [1, 1, 1]]
                self.assertIs(has_one(table), other.sign <= 0)
                for told in (two_above(table), two_above([row[::-1] for row in table[::-1]])):
                    self.assertIs(told is None, other.sign <= 0)
                if other.sign > 0:
                    self.assertTrue(shows_two(table, two_above(table)))
                    weights = [Ratio(1, 3), 7, Ratio(999999, 5)]
                    self.assertTrue(shows_level(table, weights, level(table, weights)))

    def test_judge(self):
        draw = random.Random(313)
        for table in many_tables(314, 15):
            lists = [[random_number(draw, -2, 2) for _ in table] for _ in range(6)] + [[0] * len(table)]
            for value in combinations(lists, 2):
                self.same(is_two_above(table, value), shows_two(table, value))
        for table in (BALL, [[1, 0], [0, 1]], [[1, 0, 0], [0, 2, 0], [0, 0, -1]]):
            for value in one_thing_changed(two_above(table)):
                self.same(is_two_above(table, value), shows_two(table, value))
        self.same([is_two_above(BALL, ([1, 0], [1, -2])), is_two_above(BALL, ([0, 0], [1, -2])),
                   is_two_above(BALL, ([1, 0], [1, 0])), is_two_above([[1, 0], [0, -1]], ([1, 0], [0, 1])),
                   is_two_above([[1, 0], [0, 0]], ([1, 0], [0, 1])), is_two_above([[-1, 0], [0, 1]], ([1, 0], [0, 1])),
                   is_two_above([[1, 0], [0, 1]], ((1, 0), [0, True])), is_two_above([[2]], ([1], [0]))],
                  [True] + [False] * 7)
        for table in (BALL, CROSS, [[1]], [[0]]):
            self.judges(is_two_above, [], table)


class LevelTest(Case):
    def test_level(self):
        draw = random.Random(321)
        seen = set()
        for table in many_tables(322):
            for _ in range(3):
                weights = [random_above(draw) for _ in table]
                if plain_value(table, weights, weights) <= 0:
                    self.fails(NotAbove(), level, table, weights)
                    self.fails(NotAbove(), is_level, table, weights, [0] * len(table))
                    seen.add("not above")
                    continue
                told = self.keeps(level, table, weights)
                seen.add(told is None)
                if plain_signs(table)[0] < 2:
                    self.assertIsNone(told)
                    continue
                self.assertIs(type(told), list)
                self.assertTrue(all(type(number) is Ratio for number in told))
                self.assertTrue(shows_level(table, weights, told))
                self.assertIs(is_level(table, weights, told), True)
                self.assertIs(is_level(value=tuple(told), weights=tuple(weights), table=table), True)
                whole = [ratio(fraction(number)) for number in weights]
                self.same(level(weights=tuple(whole), table=table), told)
        self.assertEqual(seen, {True, False, "not above"})

    def test_weights_with_one_of_both_lists(self):
        """The weights may have no number with one of the lists that show two above, or with both."""
        unit = [[int(i == j) for j in range(3)] for i in range(3)]
        for table in (unit, [[0, 0, 1], [0, 0, 0], [1, 0, 2]], [[1, -1, 0], [-1, 1, 0], [0, 0, 1]],
                      [[1, -1, 0, 0], [-1, 1, 0, 0], [0, 0, 1, -1], [0, 0, -1, 1]],
                      [[1, -1, 0, 0, 0], [-1, 1, 0, 0, 0], [0, 0, 1, -1, 0], [0, 0, -1, 1, 0], [0, 0, 0, 0, 1]]):
            for weights in ([1] * 5, [1, 2, 3, 4, 5], [1, 1, 2, 2, 3], [5, 4, 4, 4, 4]):
                weights = weights[:len(table)]
                if plain_value(table, weights, weights) > 0:
                    told = level(table, weights)
                    self.assertIs(told is None, plain_signs(table)[0] < 2)
                    self.assertTrue(told is None or shows_level(table, weights, told))

    def test_fact_of_one_above(self):
        """With at most one square above, the square of w A v is at least w A w times v A v."""
        draw = random.Random(323)
        met = 0
        for table in many_tables(324):
            weights = [random_above(draw) for _ in table]
            worth = plain_value(table, weights, weights)
            if worth > 0 and has_one(table):
                met += 1
                for _ in range(5):
                    other = [random_number(draw) for _ in table]
                    self.assertGreaterEqual(plain_value(table, weights, other) ** 2,
                                            worth * plain_value(table, other, other))
        self.assertGreater(met, 10)

    def test_not_above(self):
        self.fails(NotAbove(), level, [[0]], [1])
        self.fails(NotAbove(), level, [[-2]], [1])
        self.fails(NotAbove(), level, [[1, -1], [-1, 1]], [2, 2])
        self.fails(NotAbove(), level, weights=(1, 2), table=[[-1, 0], [0, Ratio(1, 4)]])
        for value in ODD_VALUES:
            self.fails(NotAbove(), is_level, [[1, -1], [-1, 1]], [2, 2], value)

    def test_judge(self):
        draw = random.Random(325)
        for table in many_tables(326, 15):
            weights = [random_above(draw) for _ in table]
            if plain_value(table, weights, weights) > 0:
                for _ in range(6):
                    value = [random_number(draw, -2, 2) for _ in table]
                    self.same(is_level(table, weights, value), shows_level(table, weights, value))
        for table, weights in ((BALL, [1, 1]), ([[1, 0], [0, 1]], [2, 3]), ([[3, 0, 0], [0, 2, 0], [0, 0, -1]], [1] * 3)):
            for value in one_thing_changed(level(table, weights)):
                self.same(is_level(table, weights, value), shows_level(table, weights, value))
        self.same([is_level(BALL, [1, 1], [-2, 2]), is_level(BALL, [1, 1], [0, 0]), is_level(BALL, [1, 1], [1, 0]),
                   is_level(BALL, [1, 1], [1, -1, 0]), is_level(CROSS, [1, 1], [1, -1]),
                   is_level([[1, 0], [0, 0]], [1, 1], [0, 1])], [True] + [False] * 5)
        for table, weights in ((BALL, [1, 1]), (CROSS, (1, 2)), ([[1]], [Ratio(1, 2)])):
            self.judges(is_level, [], table, weights)

    def test_wrong(self):
        for value in BAD_TABLES:
            self.fails(InvalidTable(value), level, value, None)
            self.fails(InvalidTable(value), level, weights=[1], table=value)
            self.fails(InvalidTable(value), is_level, value, None, None)
            self.fails(InvalidTable(value), is_level, value=[1], weights=[1], table=value)
        for value in [*ODD_VALUES, [1, 0], [0, 1], [1, -1], [1, Ratio(-1, 2)], [1, 1, 1], [1, True], "11", {0: 1, 1: 1}]:
            for table in (BALL, [[-1, 0], [0, -1]]):
                self.fails(InvalidWeights(value), level, table, value)
                self.fails(InvalidWeights(value), level, weights=value, table=table)
                self.fails(InvalidWeights(value), is_level, table, value, None)
                self.fails(InvalidWeights(value), is_level, value=[1, -1], weights=value, table=table)
