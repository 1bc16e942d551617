"""Tables of quadrics [41]."""

import random
from itertools import combinations_with_replacement

from onecrest.blends import Blend
from onecrest.errors import InvalidBlend, NotQuadric, TooMany
from onecrest.quadrics import quadrics, table_of
from onecrest.ratios import Ratio
from onecrest.tables import is_table, value_at
from onecrest.taken import taken
from onecrest.worths import worth
from plain import Case, all_counts, blends, ratio, random_above, terms
from test_taken import JUST_300, JUST_301, no_blends, plain_taken, plain_ways

THREE = Blend("abc", [((1, 1, 0), 1), ((1, 0, 1), 1), ((0, 1, 1), 1)])


def plain_table(amounts, many):
    """The table of second changes of a dict of products of degree 2."""
    rows = [[0] * many for _ in range(many)]
    for counts, amount in amounts.items():
        places = [place for place, count in enumerate(counts) for _ in range(count)]
        rows[places[0]][places[1]] += amount
        rows[places[1]][places[0]] += amount
    return rows


class TableOfTest(Case):
    def test_document(self):
        self.same((table_of(THREE)[0], list(quadrics(THREE * THREE))),
                  ([Ratio(0, 1), Ratio(1, 1), Ratio(1, 1)], ["aa", "ab", "ac", "bb", "bc", "cc"]))

    def test_number_by_number(self):
        draw = random.Random(401)
        for blend in blends(402, 60, degree=2) + [Blend("abcdefgh", [((0, 0, 2, 0, 0, 0, 0, 0), Ratio(1, 3))])]:
            told = self.keeps(table_of, blend)
            wanted = plain_table(terms(blend), len(blend.letters))
            self.same(told, [[ratio(number) for number in row] for row in wanted])
            self.assertTrue(is_table(told))
            weights = [random_above(draw) for _ in blend.letters]
            self.same(value_at(told, weights, weights), worth(blend, weights) * 2)
            self.same(table_of(blend=blend), told)

    def test_edges(self):
        self.same(table_of(Blend("a", [((2,), Ratio(1, 2))])), [[Ratio(1)]])
        self.same(table_of(Blend("abc", [((0, 1, 1), 5)])),
                  [[Ratio(0)] * 3, [Ratio(0), Ratio(0), Ratio(5)], [Ratio(0), Ratio(5), Ratio(0)]])

    def test_wrong(self):
        for value in no_blends():
            self.fails(InvalidBlend(value), table_of, value)
            self.fails(InvalidBlend(value), table_of, blend=value)
        for blend in (Blend("ab"), Blend("ab", [((0, 0), 1)]), Blend("ab", [((0, 1), 1)]), Blend("ab", [((2, 1), 1)])):
            self.fails(NotQuadric(), table_of, blend)
            self.fails(NotQuadric(), table_of, blend=blend)


class QuadricsTest(Case):
    def test_all(self):
        for blend in blends(403, 60) + blends(404, 10, letters="abc", degree=6):
            told = self.keeps(quadrics, blend)
            wanted = {}
            for way in plain_ways(blend, blend.degree - 2) if blend.degree > 1 else []:
                rows = plain_table(plain_taken(blend, way), len(blend.letters))
                wanted[way] = [[ratio(number) for number in row] for row in rows]
            self.same(told, wanted)
            self.same(quadrics(blend=blend), told)

    def test_edges(self):
        for blend in (Blend("ab"), Blend("ab", [((0, 0), 1)]), Blend("ab", [((0, 1), 1)])):
            self.same(quadrics(blend), {})
        self.same(quadrics(THREE), {"": table_of(THREE)})
        self.same(quadrics(Blend("ab", [((3, 1), 1)])), {"aa": table_of(Blend("ab", [((1, 1), 6)])),
                                                         "ab": table_of(Blend("ab", [((2, 0), 3)]))})

    def test_too_many_ways(self):
        for counts, many in ((JUST_300, 300), (JUST_301, 301)):
            blend = Blend("abcdefgh", [(one, 1) for one in counts])
            if many == 300:
                every = ["".join(way) for way in combinations_with_replacement("abcdefgh", blend.degree - 2)]
                told = quadrics(blend)
                self.same(list(told), [way for way in every if not taken(blend, way).is_nought])
            else:
                self.fails(TooMany("ways", 300), quadrics, blend)
        self.fails(TooMany("ways", 300), quadrics, Blend("abcdefgh", [(one, 1) for one in all_counts(8, 8)[:300]]))

    def test_wrong(self):
        for value in no_blends():
            self.fails(InvalidBlend(value), quadrics, value)
            self.fails(InvalidBlend(value), quadrics, blend=value)
