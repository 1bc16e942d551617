"""Steps from lot to lot, pace tables and papers, farness and its bound [76] to [78]."""

from fractions import Fraction
from itertools import product

from onecrest.blends import Blend
from onecrest.errors import InvalidBlend, InvalidLot, InvalidMany, InvalidWeights, NotLots, TooMany
from onecrest.judge import is_crested
from onecrest.ratios import Ratio
from onecrest.squares import is_squares, squares
from onecrest.tables import is_table
from onecrest.walks import behind, far_bound, farness, is_pace_paper, pace_paper, pace_table, steps
from plain import ODD_VALUES, Case, all_counts, exact, fraction, one_thing_changed, ratio
from test_chances import CROSS, NO_LOT_BLENDS, NO_LOTS, NO_WEIGHTS, WEB, lot_blends, plain_chances
from test_pairs import is_right
from test_signs import digits, plain_signs
from test_taken import no_blends

WALKS = (behind, farness, far_bound)
TABLES = ((steps, ()), (pace_table, ()), (pace_paper, ()), (is_pace_paper, ([],)))
ONE = [1, 1, 1]
NO_MANY = [value for value in ODD_VALUES if exact(value) not in map(exact, (0, 1, 7))] + [13, 100, Ratio(3), "3"]
# well-formed strings of letters, which are no lots of the blend
OTHER_LOTS = ["", "a", "abc", "c"]
TWENTY = Blend("abcdef", [(counts, 1 + sum(counts[:2])) for counts in all_counts(6, 3) if max(counts) == 1])
TWENTY_ONE = Blend("abcdefg", [(counts, 1) for counts in all_counts(7, 2) if max(counts) == 1])


def plain_steps(blend, weights):
    """Each letter is dropped by turns, and one of the lots that have all others is taken."""
    chances = plain_chances(blend, weights)
    table = []
    for lot in chances:
        row = dict.fromkeys(chances, Fraction(0))
        for dropped in lot:
            left = set(lot) - {dropped}
            whole = sum(share for other, share in chances.items() if left <= set(other))
            for other, share in chances.items():
                if left <= set(other):
                    row[other] += share / whole / blend.degree
        table.append(list(row.values()))
    return table


def plain_paces(blend, weights):
    chances = list(plain_chances(blend, weights).values())
    table, stays = plain_steps(blend, weights), 1 - Fraction(1, blend.degree)
    return [[chances[x] * ((stays if x == y else 0) - table[x][y]) + chances[x] * chances[y] / blend.degree
             for y in range(len(chances))] for x in range(len(chances))]


def plain_behind(blend, weights, lot, many):
    """The chances of all ways of so many steps, each added where it ends."""
    table, names = plain_steps(blend, weights), list(plain_chances(blend, weights))
    found = [Fraction(0)] * len(names)
    for way in product(range(len(names)), repeat=many):
        part, at = Fraction(1), names.index(lot)
        for place in way:
            part *= table[at][place]
            at = place
        found[at] += part
    return found


def plain_farness(blend, weights, told):
    chances = plain_chances(blend, weights).values()
    return sum((fraction(there) - share) ** 2 / share for there, share in zip(told, chances))


def plain_bound(blend, weights, lot, many):
    return ((1 - Fraction(1, blend.degree)) ** (2 * many)) * (1 / plain_chances(blend, weights)[lot] - 1)


class StepsTest(Case):
    def test_dropping_and_taking(self):
        for _, blend, weights in lot_blends(761, 20, few=20):
            told = self.keeps(steps, blend, weights)
            self.same(told, [[ratio(number) for number in row] for row in plain_steps(blend, weights)])
            self.same(steps(weights=tuple(weights), blend=blend), told)

    def test_facts(self):
        """Rows add up to 1; with the chances it is the same both ways; the chances stay as they are [76]."""
        for _, blend, weights in lot_blends(762, 12, few=20):
            table, chances = steps(blend, weights), [ratio(part) for part in plain_chances(blend, weights).values()]
            places = range(len(chances))
            for row in table:
                self.same(Ratio.total(row), Ratio(1))
            for x in places:
                for y in places:
                    self.same(table[x][y] * chances[x], table[y][x] * chances[y])
                self.same(Ratio.total([table[y][x] * chances[y] for y in places]), chances[x])

    def test_edges(self):
        self.same(steps(Blend("ab", [((1, 1), 2)]), [1, 5]), [[Ratio(1)]])
        self.same(steps(CROSS, [1] * 4), [[Ratio(1), Ratio(0)], [Ratio(0), Ratio(1)]])
        # of single letters one step picks any letter by its chance
        self.same(steps(Blend("abc", [((1, 0, 0), 1), ((0, 0, 1), 2)]), [1, 1, 1]), [[Ratio(1, 3), Ratio(2, 3)]] * 2)
        self.same([len(steps(TWENTY, [1] * 6)), len(pace_table(TWENTY, [1, 2, 3, 4, 5, 6]))], [20, 20])

    def test_too_many_lots(self):
        blend, weights = TWENTY_ONE, [1] * 7
        for call, rest in TABLES:
            self.fails(TooMany("lots", 20), call, blend, weights, *rest)
            self.fails(InvalidWeights([1]), call, blend, [1], *rest)
        for value in ODD_VALUES:
            self.fails(TooMany("lots", 20), is_pace_paper, blend, weights, value)
        for call in WALKS:
            self.fails(TooMany("lots", 20), call, blend, weights, "ab", 1)
            self.fails(InvalidLot("abc"), call, blend, weights, "abc", 1)
            self.fails(InvalidMany(13), call, blend, weights, "abc", 13)

    def test_wrong(self):
        for call, rest in TABLES:
            for value in no_blends():
                self.fails(InvalidBlend(value), call, value, None, *rest)
            for value in NO_WEIGHTS:
                self.fails(InvalidWeights(value), call, WEB, value, *rest)
                self.fails(InvalidWeights(value), call, NO_LOT_BLENDS[0], value, *rest)
            for blend in NO_LOT_BLENDS:
                self.fails(NotLots(), call, blend, ONE, *rest)
        self.fails(InvalidBlend(None), steps, weights=None, blend=None)
        self.fails(InvalidWeights(0), pace_table, weights=0, blend=WEB)
        self.fails(InvalidWeights(0), pace_paper, weights=0, blend=WEB)
        self.fails(NotLots(), is_pace_paper, value=[], weights=ONE, blend=NO_LOT_BLENDS[1])


class PaceTableTest(Case):
    def test_number_by_number(self):
        for _, blend, weights in lot_blends(771, 16, few=20):
            told = self.keeps(pace_table, blend, weights)
            self.same(told, [[ratio(number) for number in row] for row in plain_paces(blend, weights)])
            self.same(pace_table(weights=tuple(weights), blend=blend), told)
            self.assertIs(is_table(told), True)
            for row in told:
                self.same(Ratio.total(row), Ratio(0))

    def test_document(self):
        part = Ratio(1, 8)
        self.same(pace_table(CROSS, [1] * 4), [[-part, part], [part, -part]])
        self.same([pace_paper(CROSS, [1] * 4), plain_signs([[-part, part], [part, -part]])], [None, (0, 1, 1)])

    def test_papers(self):
        seen = set()
        for _, blend, weights in lot_blends(772, 24, few=20):
            table = pace_table(blend, weights)
            told = self.keeps(pace_paper, blend, weights)
            if len(table) < 12:
                self.assertIs(told is None, plain_signs(table)[1] > 0)
            seen.add(told is None)
            if is_crested(blend):
                self.assertIsNotNone(told)
            if told is None:
                self.assertIs(is_pace_paper(blend, weights, squares(table)), False)
                continue
            self.assertTrue(is_right(table, told))
            self.assertIs(is_pace_paper(blend, weights, told), True)
            self.assertIs(is_pace_paper(value=tuple(told), weights=tuple(weights), blend=blend), True)
            self.assertLessEqual(max([digits([number, *form]) for number, form in told] + [0]), 2000)
        self.assertEqual(seen, {True, False})

    def test_short_numbers(self):
        """Twenty lots with six digits everywhere: no number of the paper has more than 2,000."""
        entries = [(counts, Ratio(999_983 - 7 * at, 100_003 + 11 * at)) for at, (counts, _) in
                   enumerate(TWENTY.entries())]
        blend, weights = Blend("abcdef", entries), [Ratio(123_457 + at, 654_323 - 5 * at) for at in range(6)]
        told = squares(pace_table(blend, weights))
        self.assertLessEqual(max(digits([number, *form]) for number, form in told), 2000)

    def test_judge(self):
        for _, blend, weights in lot_blends(773, 6, few=20):
            table = pace_table(blend, weights)
            told = pace_paper(blend, weights)
            values = [told, squares(table), [], None, [(-number, form) for number, form in squares(table)]]
            if told is not None and len(told) < 3:
                values += one_thing_changed(told)
            for value in values:
                self.same(is_pace_paper(blend, weights, value), is_right(table, value))
            self.judges(is_pace_paper, [[], ()] if not squares(table) else [], blend, weights)
        other = squares(pace_table(CROSS, [1] * 4))
        self.same([is_squares(pace_table(CROSS, [1] * 4), other), is_pace_paper(CROSS, [1] * 4, other)], [True, False])


class BehindTest(Case):
    def test_document(self):
        self.same([behind(WEB, ONE, "ab", 1) == [Ratio(1, 2), Ratio(1, 4), Ratio(1, 4)],
                   farness(WEB, ONE, "ab", 1) == Ratio(1, 8), far_bound(WEB, ONE, "ab", 1) == Ratio(1, 2)],
                  [True, True, True])

    def test_all_ways(self):
        for draw, blend, weights in lot_blends(781, 16, few=8):
            names = list(plain_chances(blend, weights))
            for many in range(4 if len(names) < 5 else 3):
                lot = draw.choice(names)
                told = self.keeps(behind, blend, weights, lot, many)
                self.same(told, [ratio(part) for part in plain_behind(blend, weights, lot, many)])
                self.same(behind(many=many, lot=lot, weights=tuple(weights), blend=blend), told)

    def test_step_by_step(self):
        """Behind many steps: one step more each time, by the table of steps."""
        for draw, blend, weights in lot_blends(782, 12, few=12):
            names, table = list(plain_chances(blend, weights)), plain_steps(blend, weights)
            at = draw.randrange(len(names))
            wanted = [Fraction(int(place == at)) for place in range(len(names))]
            for many in range(13):
                if many in (0, 1, 5, 12):
                    self.same(behind(blend, weights, names[at], many), [ratio(part) for part in wanted])
                wanted = [sum(part * row[place] for part, row in zip(wanted, table)) for place in range(len(names))]

    def test_farness_and_bound(self):
        near = 0
        for draw, blend, weights in lot_blends(783, 30, few=12):
            lot = draw.choice(list(plain_chances(blend, weights)))
            ahead = None
            kept = pace_paper(blend, weights) is not None
            near += is_crested(blend)
            for many in (0, 1, 2, 3, 12):
                told, bound = [self.keeps(call, blend, weights, lot, many) for call in (farness, far_bound)]
                there = behind(blend, weights, lot, many)
                self.same(told, ratio(plain_farness(blend, weights, there)))
                self.same(bound, ratio(plain_bound(blend, weights, lot, many)))
                self.same([call(many=many, lot=lot, weights=tuple(weights), blend=blend) for call in (farness, far_bound)],
                          [told, bound])
                if many == 0:
                    self.same(told, bound)
                if kept:
                    self.assertTrue(told.is_at_most(bound))
                    self.assertTrue(ahead is None or told.is_at_most(ahead))
                ahead = told
        self.assertGreater(near, 10)

    def test_edges(self):
        blend = Blend("abc", [((1, 0, 0), 1), ((0, 1, 0), 2), ((0, 0, 1), 3)])
        self.same([[farness(blend, ONE, "a", many), far_bound(blend, ONE, "a", many)] for many in (0, 1, 12)],
                  [[Ratio(5), Ratio(5)], [Ratio(0), Ratio(0)], [Ratio(0), Ratio(0)]])
        self.same(behind(blend, ONE, "c", 0), [Ratio(0), Ratio(0), Ratio(1)])
        alone = Blend("ab", [((1, 1), 2)])
        self.same([behind(alone, [1, 5], "ab", 12), farness(alone, [1, 5], "ab", 3), far_bound(alone, [1, 5], "ab", 0)],
                  [[Ratio(1)], Ratio(0), Ratio(0)])
        # nothing comes near where no step leads on: the farness stays, above its bound
        self.same([farness(CROSS, [1] * 4, "ab", 12), far_bound(CROSS, [1] * 4, "ab", 12)], [Ratio(1), Ratio(1, 2 ** 24)])
        self.same(len(behind(TWENTY, [1] * 6, "abc", 2)), 20)

    def test_wrong(self):
        for call in WALKS:
            for value in no_blends():
                self.fails(InvalidBlend(value), call, value, None, None, None)
                self.fails(InvalidBlend(value), call, many=-1, lot="z", weights=[0], blend=value)
            for value in NO_WEIGHTS:
                self.fails(InvalidWeights(value), call, WEB, value, None, None)
                self.fails(InvalidWeights(value), call, many=13, lot="ba", weights=value, blend=NO_LOT_BLENDS[0])
            for value in NO_LOTS:
                self.fails(InvalidLot(value), call, WEB, ONE, value, None)
                self.fails(InvalidLot(value), call, many=13, lot=value, weights=ONE, blend=NO_LOT_BLENDS[1])
            for value in NO_MANY:
                self.fails(InvalidMany(value), call, WEB, ONE, "ab", value)
                self.fails(InvalidMany(value), call, many=value, lot="a", weights=ONE, blend=NO_LOT_BLENDS[2])
            for lot in OTHER_LOTS:
                self.fails(InvalidLot(lot), call, WEB, ONE, lot, 12)
                self.fails(InvalidMany(None), call, WEB, ONE, lot, None)
                self.fails(NotLots(), call, NO_LOT_BLENDS[2], ONE, lot, 12)
            for blend in NO_LOT_BLENDS:
                self.fails(NotLots(), call, blend, ONE, "ab", 0)
            self.fails(InvalidLot("cd"), call, Blend("abcd", [((1, 1, 0, 0), 1)]), [1] * 4, "cd", 1)
