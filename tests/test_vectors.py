"""Rows of numbers, free things and lots [61]."""

import random
from itertools import combinations

from onecrest.errors import InvalidThings, InvalidVectors
from onecrest.lots import bad_lot, is_house
from onecrest.ratios import Ratio
from onecrest.vectors import free_lots, is_free, rank, span_of
from plain import ODD_VALUES, Case, exact, fraction, random_number, ratio
from test_tables import plain_determinant, plain_rank

NO_VECTORS = [value for value in ODD_VALUES if exact(value) not in map(exact, ([[]], ((),), [[1]]))] + [
    [[1], [1, 2]], [[1, 2], [1]], [[], [1]], [[1, 2, 3, 4, 5, 6]], [[1]] * 8, [[]] * 8, [[1], [True]], [[True]], [[1], [None]],
    [[1], "1"], ["1"], [[1], 1], {0: [1]}, [{0: 1}], [[1], {0: 1}], [[[1]]], [[1], range(1)], "11", ["ab", [1, 2]], [[], None]]


def some_vectors(seed, many=60):
    """Random vectors, many of them made of others, or alike, or of noughts."""
    draw = random.Random(seed)
    for _ in range(many):
        length = draw.randint(0, 5)
        found = [[draw.choice([0, 1, -1, random_number(draw)]) for _ in range(length)] for _ in range(draw.randint(1, 4))]
        while len(found) < 7 and draw.random() < 0.7:
            one, two = draw.choice(found), draw.choice(found)
            factor, other = fraction(random_number(draw, -2, 2)), draw.choice([0, 1, -1])
            found.append([ratio(fraction(first) * factor + fraction(second) * other) for first, second in zip(one, two)])
        draw.shuffle(found)
        yield found


def plain_free(vectors, things):
    """Whether some determinant of so many columns is not 0."""
    rows = [[fraction(number) for number in vectors[thing]] for thing in things]
    return any(plain_determinant([[row[place] for place in places] for row in rows]) != 0
               for places in combinations(range(len(vectors[0])), len(rows)))


def plain_lots(vectors):
    return [lot for many in range(len(vectors) + 1) for lot in combinations(range(len(vectors)), many)
            if plain_free(vectors, lot)]


class VectorsTest(Case):
    def test_document(self):
        self.same([free_lots([[1, 0], [2, 0], [0, 3]]), span_of([[1, 0], [2, 0], [0, 0], [1, 1]], [1])],
                  [[(), (0,), (1,), (2,), (0, 2), (1, 2)], [0, 1, 2]])

    def test_by_determinants(self):
        for vectors in some_vectors(701):
            wanted = plain_lots(vectors)
            told = self.keeps(free_lots, vectors)
            self.same(told, wanted)
            self.same(self.keeps(rank, vectors), len(wanted[-1]))
            self.same(rank(vectors), plain_rank(vectors))
            tuples = tuple(map(tuple, vectors))
            self.same([free_lots(vectors=tuples), rank(vectors=tuples)], [wanted, len(wanted[-1])])
            self.assertTrue(is_house(len(vectors), told))
            self.assertIsNone(bad_lot(len(vectors), told))

    def test_free_and_spans(self):
        draw = random.Random(702)
        seen = set()
        for vectors in some_vectors(703):
            for _ in range(4):
                things = sorted(draw.sample(range(len(vectors)), draw.randint(0, len(vectors))))
                self.same(self.keeps(is_free, vectors, things), plain_free(vectors, things))
                seen.add((is_free(vectors, things), len(things) > 0))
                most = plain_rank([vectors[thing] for thing in things])
                wanted = [thing for thing, row in enumerate(vectors)
                          if plain_rank([vectors[held] for held in things] + [row]) == most]
                self.same(self.keeps(span_of, vectors, things), wanted)
                self.assertLessEqual(set(things), set(wanted))
                self.same([is_free(things=tuple(things), vectors=vectors), span_of(things=tuple(things), vectors=vectors)],
                          [is_free(vectors, things), wanted])
        self.assertLessEqual({(True, True), (False, True), (True, False)}, seen)

    def test_edges(self):
        # vectors without numbers, of noughts, one and seven of them
        for vectors in ([[]], ((),), [[]] * 7, [[0]], [[0, Ratio(0)]] * 7):
            self.same([rank(vectors), free_lots(vectors)], [0, [()]])
            self.same(span_of(vectors, []), list(range(len(vectors))))
            self.same([is_free(vectors, []), is_free(vectors, ()), is_free(vectors, [0])], [True, True, False])
        self.same([rank([[3]]), free_lots([[3]]), span_of([[3]], []), span_of([[3]], [0])], [1, [(), (0,)], [], [0]])
        seven = [[1, k, k * k, k ** 3, k ** 4] for k in range(7)]
        self.same([rank(seven), len(free_lots(seven))], [5, 1 + 7 + 21 + 35 + 35 + 21])
        self.same(span_of(seven, [0, 1, 2, 3]), [0, 1, 2, 3])
        self.same(span_of(seven, [0, 1, 2, 3, 5]), list(range(7)))
        self.same(span_of([[0, 0], [1, 2], [2, 4]], []), [0])
        self.assertIs(is_free([[1, 2], [2, 4]], [0, 1]), False)
        self.assertIs(is_free([[Ratio(1, 3), 1], [1, 3], [0, 0]], [1]), True)

    def test_wrong_vectors(self):
        for value in NO_VECTORS:
            for call in (rank, free_lots):
                self.fails(InvalidVectors(value), call, value)
                self.fails(InvalidVectors(value), call, vectors=value)
            for call in (is_free, span_of):
                self.fails(InvalidVectors(value), call, value, None)
                self.fails(InvalidVectors(value), call, things=[0], vectors=value)

    def test_wrong_things(self):
        three = [[1], [2], [0]]
        wrong = [value for value in ODD_VALUES if exact(value) not in map(exact, ([], (), [1], (1,)))]
        for value in wrong + [[3], [0, 3], [1, 0], [0, 0], [0, 1, 1], [-1, 0], [0, True], [False], [Ratio(1)], "01", {0: 1},
                              [0, None], [0, 1, 2, 3], range(2), [[0]]]:
            for call in (is_free, span_of):
                self.fails(InvalidThings(value), call, three, value)
                self.fails(InvalidThings(value), call, things=value, vectors=three)
