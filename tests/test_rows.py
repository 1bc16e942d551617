"""Rows, dips, rows along lines, rows joined, an entry that is lost [81] to [84]."""

import random
from fractions import Fraction
from math import comb

from onecrest.blends import Blend
from onecrest.errors import InvalidBlend, InvalidPosition, InvalidRow, InvalidWeights, NotEven, TooMany
from onecrest.judge import is_crested
from onecrest.ratios import Ratio
from onecrest.rows import dent_at, is_even, joined, line_row, lost, row_blend
from plain import ODD_VALUES, Case, blends, exact, fraction, random_number, ratio, terms
from test_judge import crested_blends
from test_taken import no_blends

WEB = Blend("abc", [((1, 1, 0), 1), ((1, 0, 1), 1), ((0, 1, 1), 1)])
NO_ROWS = [value for value in ODD_VALUES if exact(value) != exact((1, 2, 3))] + [
    [1] * 10, [0] * 5, [0, Ratio(0)], (0, 0), [1, -1], [1, Ratio(-1, 9)], [1, True], [1, None], "12", {0: 1, 1: 2},
    [[1], [1]], range(3), [0, 1, "1"]]
NO_LISTS = [value for value in ODD_VALUES if exact(value) != exact((1, 2, 3))] + [
    [1, 1], [1] * 4, [1, -1, 0], [Ratio(-1, 9), 1, 1], [1, 1, True], [1, 1, None], "abc", {0: 1, 1: 1, 2: 1}, range(3)]


def rows(seed, many=60):
    """Rows of all kinds: any, with gaps, with noughts at either end, hardly even and hardly not."""
    draw = random.Random(seed)
    for row in ([1, 2, 1], [1, 1, 1], [0, 3, 0, 0, 1], [1, 0, 0, 1], [0, 1], [3, 0], [0, 0, 2, 0], (1, Ratio(1, 2)),
                [0] * 8 + [1], [1, 8, 28, 56, 70, 56, 28, 8, 1]):
        yield draw, row
    for _ in range(many):
        length = draw.randint(2, 9)
        row = [draw.choice([1, 1, 1, 0]) * random_number(draw, 0, 9) for _ in range(length)]
        if any(fraction(number) for number in row):
            yield draw, row
        yield draw, hardly_even(draw, length, draw.choice([0, 0, 1, -1]))


def hardly_even(draw, length, change, at=None):
    """Shares that are powers of one number, with noughts at some ends; one number perhaps a little changed."""
    share = Fraction(draw.randint(1, 5), draw.randint(1, 5))
    numbers = [share ** k * comb(length - 1, k) for k in range(length)]
    numbers[draw.randrange(length) if at is None else at] *= 1 + Fraction(change, 100)
    if length > 3 and draw.random() < 0.3:
        numbers[draw.choice([0, -1])] = 0
    return [ratio(number) for number in numbers]


def plain_shares(row):
    return [fraction(number) / comb(len(row) - 1, k) for k, number in enumerate(row)]


def plain_dips(row):
    shares = plain_shares(row)
    return [k for k in range(1, len(row) - 1)
            if shares[k] == 0 and any(shares[:k]) and any(shares[k + 1:]) or shares[k] ** 2 < shares[k - 1] * shares[k + 1]]


def plain_line(blend, first, second):
    """Multiplied out: each letter is s times its number in the one list and t times that in the other."""
    if blend.is_nought:
        return []
    found = [Fraction(0)] * (blend.degree + 1)
    for counts, amount in terms(blend).items():
        part = {0: amount}
        for count, one, two in zip(counts, first, second):
            for _ in range(count):
                more = {}
                for power, number in part.items():
                    more[power + 1] = more.get(power + 1, 0) + number * fraction(one)
                    more[power] = more.get(power, 0) + number * fraction(two)
                part = more
        for power, number in part.items():
            found[power] += number
    return found


class RowTest(Case):
    def test_document(self):
        self.same([is_even([1, 2, 1]), dent_at([1, 1, 1]), dent_at([0, 3, 0, 0, 1]), line_row(WEB, [1, 0, 0], [1, 2, 1]),
                   joined([1, 2], [1, 3])],
                  [True, 1, 2, [Ratio(5, 1), Ratio(3, 1), Ratio(0, 1)], [Ratio(1, 1), Ratio(5, 1), Ratio(6, 1)]])
        self.same([lost([1, 0, 1], 1), lost([1, 3, 0, 1], 2)], [(Ratio(4, 1), None), (Ratio(9, 1), Ratio(3, 1))])
        # 1, 2, 1 is even, and just so; 1, 0, 0, 1 has dips at 1 and at 2 [82]
        self.same([is_even([1, Ratio(1999, 1000), 1]), dent_at([1, 0, 0, 1]), plain_dips([1, 0, 0, 1])],
                  [False, 1, [1, 2]])

    def test_blends(self):
        for _, row in rows(811):
            told = self.keeps(row_blend, row)
            last = len(row) - 1
            self.same((told.letters, told.degree), ("ab", last))
            self.assertEqual(terms(told), {(k, last - k): fraction(number) for k, number in enumerate(row)
                                           if fraction(number)})
            self.same(row_blend(row=tuple(row)), told)

    def test_dips(self):
        seen = set()
        for _, row in rows(812):
            dips = plain_dips(row)
            wanted = [dips[0] if dips else None, not dips]
            self.same([self.keeps(dent_at, row), self.keeps(is_even, row)], wanted)
            self.same([dent_at(row=tuple(row)), is_even(row=tuple(row))], wanted)
            seen.add(wanted[0])
        self.assertLessEqual({None, 1, 2, 3}, seen)

    def test_even_exactly_if_crested(self):
        for _, row in rows(813):
            self.same(is_crested(row_blend(row)), is_even(row))

    def test_edges(self):
        for row in ([0, 1], [1, 0], [3, 5], (Ratio(1, 9), 0)):
            self.same([is_even(row), dent_at(row)], [True, None])
        self.same([dent_at([0, 0, 1, 2, 1, 0, 0]), dent_at([0, 0, 6, 4, 1]), dent_at([1, 0, 1]), dent_at([0, 1, 0, 0, 1, 0]),
                   dent_at([1, 0, 0, 0, 0, 0, 0, 0, 1]), dent_at([1] * 9), dent_at([0, 2, 0]), dent_at([5, 5, 0, 0])],
                  [None, None, 1, 2, 1, 1, None, None])
        # noughts at an end are no gap, and their squares are not less than their neighbours' products
        self.same([is_even([0, 0, 0, 2]), is_even([2, 0, 0, 0, 0, 0, 0, 0, 0]), is_even([0, 0, 3, 0, 0])], [True] * 3)
        # a gap whose ends are not beside one another is a dip as well
        self.same([dent_at([1, 9, 0, 0, 0, 9]), is_even([1, 0, 0, 0, 0, 0, 0, 0, 1])], [2, False])

    def test_wrong(self):
        for value in NO_ROWS:
            for call in (row_blend, is_even, dent_at):
                self.fails(InvalidRow(value), call, value)
                self.fails(InvalidRow(value), call, row=value)
            self.fails(InvalidRow(value), joined, value, None)
            self.fails(InvalidRow(value), joined, other=[1], row=value)
            self.fails(InvalidRow(value), joined, [0, 1], value)
            self.fails(InvalidRow(value), joined, other=value, row=[1] * 9)
            self.fails(InvalidRow(value), lost, value, None)
            self.fails(InvalidRow(value), lost, position=-1, row=value)


class LineTest(Case):
    def test_multiplied_out(self):
        draw = random.Random(821)
        for blend in blends(822, 50) + [Blend("ab"), Blend("ab", [((0, 0), 3)])]:
            first, second = [[random_number(draw, 0, 4) for _ in blend.letters] for _ in range(2)]
            told = self.keeps(line_row, blend, first, second)
            self.same(told, [ratio(number) for number in plain_line(blend, first, second)])
            self.same(line_row(second=tuple(second), first=tuple(first), blend=blend), told)
            self.same(line_row(blend, second, first), told[::-1])

    def test_of_crested_blends(self):
        draw = random.Random(823)
        met = 0
        for blend in crested_blends(824):
            for _ in range(3):
                first, second = [[draw.choice([0, 1]) * random_number(draw, 0, 4) for _ in blend.letters] for _ in range(2)]
                row = line_row(blend, first, second)
                if len(row) >= 2 and any(number.sign for number in row):
                    met += 1
                    self.assertIs(is_even(row), True, (blend, first, second))
        self.assertGreater(met, 30)

    def test_edges(self):
        self.same([line_row(Blend("abc"), [1] * 3, [1] * 3), line_row(Blend("ab", [((0, 0), 3)]), [0, 0], [0, 0]),
                   line_row(WEB, [0] * 3, [0] * 3), line_row(WEB, (1, 1, 1), [0] * 3), line_row(WEB, [0] * 3, [1] * 3)],
                  [[], [Ratio(3)], [Ratio(0)] * 3, [Ratio(0), Ratio(0), Ratio(3)], [Ratio(3), Ratio(0), Ratio(0)]])

    def test_wrong(self):
        for value in no_blends():
            self.fails(InvalidBlend(value), line_row, value, None, None)
            self.fails(InvalidBlend(value), line_row, second=0, first=0, blend=value)
        for value in NO_LISTS:
            self.fails(InvalidWeights(value), line_row, WEB, value, None)
            self.fails(InvalidWeights(value), line_row, second=[0], first=value, blend=WEB)
            self.fails(InvalidWeights(value), line_row, WEB, [0, 0, 0], value)
            self.fails(InvalidWeights(value), line_row, second=value, first=(1, 2, 3), blend=Blend("abc"))


class JoinedTest(Case):
    def test_both_sequences(self):
        every = [row for _, row in rows(831)]
        draw = random.Random(832)
        for _ in range(80):
            row, other = draw.choice(every), draw.choice(every)
            if len(row) + len(other) > 10:
                self.fails(TooMany("row", 9), joined, row, other)
                continue
            wanted = [sum(fraction(row[i]) * fraction(other[k - i]) for i in range(len(row)) if 0 <= k - i < len(other))
                      for k in range(len(row) + len(other) - 1)]
            self.same(self.keeps(joined, row, other), [ratio(number) for number in wanted])
            self.same(joined(other=tuple(row), row=tuple(other)), [ratio(number) for number in wanted])

    def test_even_ones(self):
        even = [row for _, row in rows(833) if is_even(row) and len(row) < 6]
        draw = random.Random(834)
        for _ in range(60):
            self.assertIs(is_even(joined(*draw.sample(even, 2))), True)

    def test_edges(self):
        self.same(len(joined([1] * 5, [1] * 5)), 9)
        self.same(joined([1] * 8, [1, 1]), [Ratio(number) for number in (1, 2, 2, 2, 2, 2, 2, 2, 1)])
        self.fails(TooMany("row", 9), joined, [1] * 9, [1, 1])
        self.fails(TooMany("row", 9), joined, [1] * 5, [0] * 5 + [1])
        self.same(joined([0, 1], [0, 1]), [Ratio(0), Ratio(0), Ratio(1)])


class LostTest(Case):
    def test_both_bounds(self):
        """Numbers at both ends, below and beyond them, put at the position: even just within them."""
        met = set()
        for draw, row in rows(841, 150):
            last = len(row) - 1
            row = [number if fraction(number) else 1 for number in row]
            if last < 2:
                continue
            at = draw.randint(1, last - 1)
            if set(plain_dips(row)) - {at - 1, at, at + 1}:
                self.fails(NotEven(), lost, row, at)
                continue
            told = self.keeps(lost, row, at)
            self.same(lost(position=at, row=tuple(row)), told)
            low, high = fraction(told[0]), None if told[1] is None else fraction(told[1])
            self.assertIs(high is None, last == 2)
            tries = {low * Fraction(k, 7) for k in (1, 6, 7, 8)} | {Fraction(1, 50), Fraction(90), Fraction(1)}
            tries |= {high * Fraction(k, 9) for k in (8, 9, 10)} if high is not None else set()
            for number in tries:
                within = number ** 2 >= low and (high is None or number <= high)
                self.assertIs(not plain_dips([*row[:at], ratio(number), *row[at + 1:]]), within, (row, at, number))
                met.add((within, high is None))
        self.assertEqual(len(met), 4)

    def test_plain_words(self):
        for draw, row in rows(842, 80):
            last, shares = len(row) - 1, plain_shares(row)
            for at in range(1, last):
                others = [share for k, share in enumerate(shares) if k != at]
                if not all(others):
                    self.fails(InvalidPosition(at), lost, row, at)
                    continue
                if any(abs(k - at) > 1 for k in plain_dips(row)):
                    self.fails(NotEven(), lost, row, at)
                    continue
                limits = [shares[k] ** 2 / shares[2 * k - at] for k in (at - 1, at + 1) if 0 < k < last]
                ways = comb(last, at)
                self.same(lost(row, at), (ratio(ways ** 2 * shares[at - 1] * shares[at + 1]),
                                          ratio(ways * min(limits)) if limits else None))

    def test_lost_number_has_no_effect(self):
        for draw, row in rows(843, 60):
            row = [number if fraction(number) else 2 for number in row]
            at = draw.randint(0, len(row) - 1)
            other = [*row[:at], draw.choice([0, 10 ** 20, Ratio(1, 999)]), *row[at + 1:]]
            if 0 < at < len(row) - 1 and not any(abs(k - at) > 1 for k in plain_dips(row)):
                self.same(lost(other, at), lost(row, at))

    def test_edges(self):
        # beside an end only one neighbour has a place of its own; in a row of three none has
        self.same([lost([1, 0, 3, 1], 1), lost([1, 7, 3, 1], 1), lost([2, 0, 3], 1)],
                  [(Ratio(9), Ratio(3)), (Ratio(9), Ratio(3)), (Ratio(24), None)])
        # two from an end: both have one, the least counts
        self.same(lost([1, 4, 0, 4, 1], 2), (Ratio(36), Ratio(6)))
        self.same(lost([1, 4, 0, 8, 1], 2), (Ratio(72), Ratio(6)))
        self.same(lost([1, 8, 0, 4, 1], 2), (Ratio(72), Ratio(6)))
        # no number may be let: its square wants to be 9 at least, but 1 is the most
        self.same(lost([9, 3, 0, 1], 2), (Ratio(9), Ratio(1, 3)))
        self.same(lost([1, 8, 28, 56, 0, 56, 28, 8, 1], 4), (Ratio(4900), Ratio(70)))
        self.fails(NotEven(), lost, [1, 1, 1, 1, 0, 1], 4)
        self.fails(NotEven(), lost, [1, 0, 9, 9, 99, 99], 1)

    def test_wrong(self):
        for value in [value for value in ODD_VALUES if exact(value) != exact(1)] + [2, 3, Ratio(1), "1", [1]]:
            self.fails(InvalidPosition(value), lost, [1, 2, 1], value)
            self.fails(InvalidPosition(value), lost, position=value, row=(1, 0, 1))
        for row, at in (([1, 1], 0), ([1, 1], 1), ([1, 2, 1], 0), ([1, 2, 1], 2), ([0, 1, 1], 1), ([1, 0, 0, 1], 1),
                        ([1, 1, 0], 1), ([1, 1, 1, 0, 1, 1, 1, 1, 1], 4), ([1, 9, 1, 1, 9, 0], 2)):
            self.fails(InvalidPosition(at), lost, row, at)
