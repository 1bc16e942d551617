"""Squares of tables [33]."""

import random
from fractions import Fraction

from onecrest.errors import InvalidTable
from onecrest.ratios import Ratio
from onecrest.squares import is_squares, squares
from onecrest.tables import rank
from plain import ODD_VALUES, Case, fraction, one_thing_changed, random_number, ratio
from test_tables import HANDS, NO_TABLES, fractions_of, low_rank, plain_rank, random_table, tables

HALF = Ratio(1, 2)
CROSS = [[0, 1], [1, 0]]


def are_right(table, value):
    """Whether a value is squares of the table, by the words of [33]."""
    if type(value) not in (list, tuple):
        return False
    for square in value:
        if type(square) is not tuple or len(square) != 2 or type(square[1]) not in (list, tuple):
            return False
        if any(type(number) not in (int, Ratio) for number in [square[0], *square[1]]):
            return False
        if fraction(square[0]) == 0 or len(square[1]) != len(table):
            return False
    if plain_rank([form for _, form in value]) != len(value):
        return False
    size = range(len(table))
    return all(fraction(table[i][j]) == sum(fraction(number) * fraction(form[i]) * fraction(form[j])
                                            for number, form in value) for i in size for j in size)


def digits(value):
    """The most digits of a number in squares, above or below the stroke."""
    return max(len(str(abs(part))) for number, form in value for told in [number, *form]
               for part in (told.top, told.bottom))


class SquaresTest(Case):
    def test_document(self):
        told = [is_squares(CROSS, [(HALF, [1, 1]), (-HALF, [1, -1])]), is_squares([[2]], [(1, [1]), (1, [1])]),
                len(squares(HANDS))]
        self.same(told, [True, False, 3])

    def test_squares(self):
        for table in tables(81):
            told = self.keeps(squares, table)
            self.assertIs(type(told), list)
            self.assertTrue(all(type(square) is tuple and type(square[1]) is list for square in told))
            self.assertTrue(all(type(number) is Ratio for one, form in told for number in [one, *form]))
            self.assertTrue(are_right(table, told), table)
            self.assertEqual(len(told), rank(table))
            self.assertIs(is_squares(table, told), True)
            self.assertIs(is_squares(value=tuple(told), table=table), True)
            self.same(squares(table=tuple(map(tuple, table))), told)
            whole = [[ratio(fraction(number)) for number in row] for row in table]
            self.same(squares(whole), told)

    def test_hands(self):
        """One square above and two below: the table of a b + a c + b c [1]."""
        numbers = [number.sign for number, _ in squares(HANDS)]
        self.assertEqual(sorted(numbers), [-1, -1, 1])

    def test_edges(self):
        self.same(squares([[0]]), [])
        self.same(squares([[0] * 20] * 20), [])
        self.assertIs(is_squares([[0] * 20] * 20, []), True)
        self.assertTrue(are_right([[-3]], squares([[-3]])))
        line = [[int(abs(i - j) == 1) for j in range(20)] for i in range(20)]
        ones = [[int(i != j) for j in range(20)] for i in range(20)]
        late = [[int(i == j == 19) for j in range(20)] for i in range(20)]
        for table in (line, ones, late, [[1] * 20] * 20):
            told = squares(table)
            self.assertTrue(are_right(table, told))
            self.assertIs(is_squares(table, told), True)
            self.assertLess(digits(told), 30)
        self.assertEqual(sorted(number.sign for number, _ in squares(ones)), [-1] * 19 + [1])

    def test_great_numbers(self):
        draw = random.Random(82)
        six = [[Ratio(draw.randint(-999999, 999999), draw.randint(1, 999999)) for _ in range(20)] for _ in range(20)]
        for zero in (False, True):
            table = [[0 if zero and i == j else six[max(i, j)][min(i, j)] for j in range(20)] for i in range(20)]
            told = squares(table)
            self.assertIs(is_squares(table, told), True)
            self.assertLessEqual(digits(told), 2000)
        for many in (1, 7, 15):
            table = low_rank(draw, 20, many)
            told = squares(table)
            self.assertTrue(are_right(table, told))
            self.assertEqual(len(told), plain_rank(table))

    def test_same_signs_whichever(self):
        """Whichever squares are told, as many are above (Sylvester)."""
        draw = random.Random(83)
        for table in tables(84, 20):
            size = len(table)
            order = draw.sample(range(size), size)
            mixed = [[table[i][j] for j in order] for i in order]
            signs = [sorted(number.sign for number, _ in squares(one)) for one in (table, mixed)]
            self.assertEqual(*signs)
            back = []
            for number, form in squares(mixed):
                placed = [0] * size
                for at, part in zip(order, form):
                    placed[at] = part
                back.append((number, placed))
            self.assertIs(is_squares(table, back), True)


class IsSquaresTest(Case):
    def test_other_right_ones(self):
        draw = random.Random(85)
        for table in tables(86, 15):
            told = squares(table)
            factors = [fraction(random_number(draw, 1, 9)) or Fraction(1) for _ in told]
            turned = [(ratio(fraction(number) / factor ** 2), tuple(ratio(fraction(part) * factor) for part in form))
                      for (number, form), factor in zip(told, factors)]
            draw.shuffle(turned)
            self.assertIs(is_squares(table, turned), True)
            self.assertIs(is_squares(table, tuple(turned)), True)
        self.assertIs(is_squares([[2, 1], [1, 2]], [(2, [1, HALF]), (Ratio(3, 2), (0, 1))]), True)
        self.assertIs(is_squares([[1, 0], [0, -1]], [(1, [1, 0]), (-1, [0, -1])]), True)

    def test_one_thing_changed(self):
        for table in ([[2]], [[-HALF]], CROSS, [[2, 1], [1, 2]], HANDS, [[1, 1], [1, 1]], [[0, 0], [0, 3]]):
            for value in one_thing_changed(squares(table)):
                self.assertIs(is_squares(table, value), are_right(table, value), (table, value))

    def test_wrong_ones(self):
        two = [(HALF, [1, 1]), (-HALF, [1, -1])]
        for value in ([], two[:1], two + two[:1], [(HALF, [1, 1]), (HALF, [1, -1])], [list(two[0]), two[1]],
                      [(HALF, [1, 1, 0]), (-HALF, [1, -1, 0])], [(HALF, [1, True]), two[1]], {0: two[0]}, "11",
                      [(HALF, "11"), two[1]], [(True, [1, 1]), two[1]], [(HALF, [1, 1], 1), two[1]], [None, None],
                      [(HALF, {0: 1, 1: 1}), two[1]], [(HALF, [1, None]), two[1]]):
            self.assertIs(is_squares(CROSS, value), False)
        # they add up, but one form is made of the others, or one number is 0
        self.assertIs(is_squares([[2, 0], [0, 0]], [(1, [1, 0]), (1, [1, 0])]), False)
        self.assertIs(is_squares([[2, 0], [0, 0]], [(1, [1, 0]), (1, [-1, 0])]), False)
        self.assertIs(is_squares([[3, 0], [0, 0]], [(1, [1, 0]), (HALF, [2, 0])]), False)
        self.assertIs(is_squares([[1, 0], [0, 0]], [(1, [1, 0]), (0, [0, 1])]), False)
        self.assertIs(is_squares([[1, 0], [0, 0]], [(1, [1, 0]), (1, [0, 0])]), False)
        self.assertIs(is_squares([[0]], [(1, [1]), (-1, [1])]), False)
        self.assertIs(is_squares([[0, 0], [0, 0]], [(1, [1, 0]), (-1, [1, 0])]), False)
        # only one number of the table is missed, on either side of the middle line
        draw = random.Random(87)
        for size in (2, 3, 5):
            table = random_table(draw, size)
            told = squares(table)
            for i in range(size):
                for j in range(i + 1):
                    other = fractions_of(table)
                    other[i][j] += 1
                    other[j][i] = other[i][j]
                    self.assertIs(is_squares([[ratio(number) for number in row] for row in other], told), False)

    def test_judge(self):
        self.judges(lambda value: is_squares(CROSS, value), [])
        self.judges(lambda value: is_squares([[0]], value), [[], ()])
        self.judges(lambda value: is_squares([[0] * 3] * 3, value), [[], ()])

    def test_wrong_tables(self):
        for value in [value for value in ODD_VALUES if value != [[1]]] + NO_TABLES:
            self.fails(InvalidTable(value), squares, value)
            self.fails(InvalidTable(value), squares, table=value)
            self.fails(InvalidTable(value), is_squares, value, [])
            self.fails(InvalidTable(value), is_squares, value=None, table=value)
