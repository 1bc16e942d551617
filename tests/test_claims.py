"""Claims, their contraries and papers [93], [94]."""

import random
from itertools import permutations

from onecrest.blends import Blend
from onecrest.claims import contrary, is_claim, is_paper_of, is_true, paper_of, words
from onecrest.errors import InvalidClaim
from onecrest.exchange import mates
from onecrest.judge import crest_paper, dent
from onecrest.moved import with_amount
from onecrest.ratios import Ratio
from onecrest.signs import two_above
from onecrest.squares import squares
from plain import ODD_VALUES, Case, all_counts, changeable, exact, fraction, one_thing_changed, random_above
from test_exchange import are_right_mates, asked, is_right_misfit, plain_mates
from test_judge import APART, GAP, THREE, is_right_dent, is_right_paper, mixed_blends, plain_fault
from test_pieces import is_right_tree, plain_pieces
from test_permanents import plain_permanent, shows_none, squares_of_rows
from test_rows import plain_dips, plain_shares, rows
from test_signs import many_tables, plain_signs, plain_value, shows_two
from test_squares import are_right
from test_taken import JUST_300, JUST_301

LINES = [("crested", "dented"), ("whole", "apart"), ("exchanges", "stuck"), ("one", "more"), ("sound", "sunk"),
         ("even", "dips"), ("choice", "none"), ("lets", "bars")]
CALLS = (is_true, contrary, paper_of)
HALF = Ratio(1, 2)
OVER = Blend("abcdefgh", [(one, 1) for one in JUST_301])
JUST = Blend("abcdefgh", [(one, 1) for one in JUST_300])
# it exchanges, and more than 1,000 mates would be asked for
WIDE = Blend("abcd", [(counts, 1) for counts in all_counts(4, 4)])


def moved(claim):
    """The blend with the amount moved of which a claim speaks."""
    blend, counts, number = claim[1:]
    entries = [entry for entry in blend.entries() if entry[0] != tuple(counts)] + [(counts, number)]
    return Blend(blend.letters, entries)


def plain_true(claim):
    """Whether the first word of the claim's line is true, by a reckoning of the tests."""
    word, part = claim[0], claim[1]
    if word in LINES[0] + LINES[7]:
        return plain_fault(part if word in LINES[0] else moved(claim)) is None
    if word in LINES[1]:
        return len(plain_pieces(part)) <= 1
    if word in LINES[2]:
        return all(plain_mates(part, *key) for key in asked(part))
    if word in LINES[3] + LINES[4]:
        above, below, _ = plain_signs(part)
        return above <= 1 if word in LINES[3] else below == 0
    return not plain_dips(part) if word in LINES[5] else plain_permanent(part) > 0


def are_numbers(value, many):
    return type(value) in (list, tuple) and len(value) == many and all(type(part) in (int, Ratio) for part in value)


def is_right(claim, value):
    """Whether a value is a paper of the claim, by the words of [93]."""
    word, part = claim[0], claim[1]
    if word in LINES[7]:
        part = moved(claim)
    if word in ("crested", "lets"):
        return is_right_paper(part, value)
    if word in ("dented", "bars"):
        return is_right_dent(part, value)
    if word in ("whole", "exchanges", "stuck", "more", "none"):
        judge = {"whole": is_right_tree, "exchanges": are_right_mates, "stuck": is_right_misfit, "more": shows_two,
                 "none": shows_none}[word]
        return judge(part, value)
    if word == "apart":
        standing = part.bears()
        return (type(value) is str and value != "" and list(value) == sorted(set(value)) and set(value) < set(standing)
                and all(len({letter in value for letter, count in zip(part.letters, counts) if count}) == 1
                        for counts, _ in part.entries()))
    if word in ("one", "sound"):
        if not are_right(part, value):
            return False
        signs = [fraction(number) > 0 for number, _ in value]
        return signs.count(True) <= 1 if word == "one" else all(signs)
    if word == "sunk":
        return are_numbers(value, len(part)) and plain_value(part, value, value) < 0
    if word == "even":
        return (are_numbers(value, len(part) - 2) and not plain_dips(part) and all(fraction(number) == slack
                for number, slack in zip(value, plain_slacks(part))))
    if word == "dips":
        return type(value) is int and value in plain_dips(part)
    return (type(value) in (list, tuple) and all(type(place) is int for place in value)
            and sorted(value) == list(range(len(part))) and all(fraction(row[place]) for row, place in zip(part, value)))


def plain_slacks(row):
    shares = plain_shares(row)
    return [shares[k] ** 2 - shares[k - 1] * shares[k + 1] for k in range(1, len(row) - 1)]


def parts(seed, many=8):
    """For each line of words many parts, a dict from the first words."""
    draw = random.Random(seed)
    found = {first: [] for first, _ in LINES}
    for blend in mixed_blends(seed, 3) + [THREE]:
        for first in ("crested", "whole", "exchanges"):
            found[first].append((blend,))
        every = all_counts(len(blend.letters), blend.degree or 0)
        found["lets"].append((blend, draw.choice([list, tuple])(draw.choice(every)), random_above(draw)))
    for table in list(many_tables(seed, 2)):
        if len(table) < 7:
            found["one"].append((table,))
            found["sound"].append((tuple(map(tuple, table)),))
    ball = [[[2, 0], [0, 3]], [[0]], [[1, 1], [1, 1]], [[Ratio(1, 2), 0, 0], [0, 0, 0], [0, 0, 1]]]
    found["sound"] += [(table,) for table in ball]
    found["even"] += [(row,) for _, row in rows(seed, many)]
    found["choice"] += [(square,) for square in squares_of_rows(seed, many * 3)]
    return found


def claims(seed):
    for (first, second), told in zip(LINES, parts(seed).values()):
        for part in told:
            yield (first, *part), (second, *part)


class ClaimTest(Case):
    def test_document(self):
        claim = ("crested", THREE)
        self.same([is_true(claim), contrary(claim)[0], is_true(("whole", APART)), is_paper_of(("apart", APART), "a")],
                  [True, "dented", False, True])

    def test_words(self):
        self.same(self.keeps(words), LINES)
        self.same(len({word for line in words() for word in line}), 16)

    def test_just_one_of_both(self):
        seen = set()
        for claim, other in claims(931):
            first = plain_true(claim)
            seen.add((claim[0], first))
            self.same([self.keeps(is_true, claim), self.keeps(is_true, other)], [first, not first])
            self.same([is_claim(claim), is_claim(value=other), is_true(claim=claim)], [True, True, first])
            self.same(self.keeps(contrary, claim), other)
            self.same(contrary(claim=other), claim)
        self.assertEqual(len(seen), 16, seen)

    def test_new_lists(self):
        """The contrary has numbers, tuples and objects as they were passed, with new lists in them."""
        for claim in (("one", [[1, Ratio(4, 2)], (Ratio(2), 3)]), ("even", (1, Ratio(2), 1)), ("choice", ([1, 2], (0, 3))),
                      ("lets", GAP, [2, 2], Ratio(6, 2)), ("bars", GAP, (2, 2), 3), ("sunk", ([1, 0], [0, -1]))):
            told = contrary(claim)
            self.assertEqual(exact(told[1:]), exact(claim[1:]))
            ahead = {id(part) for part in changeable(claim)}
            self.assertFalse(ahead & {id(part) for part in changeable(told)})
        self.assertIs(contrary(("crested", GAP))[1], GAP)

    def test_papers(self):
        seen = set()
        for pair in claims(932):
            for claim, other in (pair, pair[::-1]):
                told = self.keeps(paper_of, claim)
                if not plain_true(pair[0]) == (claim is pair[0]):
                    self.assertIsNone(told)
                    continue
                seen.add(claim[0])
                self.assertIsNotNone(told)
                self.assertTrue(is_right(claim, told), (claim, told))
                self.same([is_paper_of(claim, told), is_paper_of(value=told, claim=claim)], [True, True])
                # no value is a paper of both
                self.same(is_paper_of(other, told), False)
                self.same(paper_of(claim=claim), told)
        self.assertEqual(len(seen), 16, seen)

    def test_what_papers_are_made_of(self):
        """Numbers are Ratios, positions INTEGERS, and the kinds are those that [93] tells."""
        self.same(paper_of(("even", [1, 3, 1, 0])), [Ratio(2, 3), Ratio(1, 9)])
        self.same(paper_of(("even", [1, 2])), [])
        self.same(paper_of(("dips", [0, 1, 1, 0, 1, 0, 0])), 3)
        self.same(paper_of(("choice", [[0, 1], [1, 1]])), [1, 0])
        self.same(paper_of(("none", [[0, 0], [1, 1]])), ([0], [0, 1]))
        self.same(paper_of(("apart", Blend("abc", [((0, 2, 0), 1), ((1, 0, 1), 1)]))), "ac")
        self.same(paper_of(("whole", Blend("abc"))), [])
        self.same(paper_of(("exchanges", Blend("ab", [((1, 0), 1), ((0, 1), 1)]))),
                  {((0, 1), (1, 0), "b"): "a", ((1, 0), (0, 1), "a"): "b"})
        self.same(paper_of(("stuck", GAP)), ((1, 3), (3, 1), "b"))
        self.same(paper_of(("sound", [[0]])), [])
        told = paper_of(("sunk", [[1, 2], [2, 1]]))
        self.assertTrue(isinstance(told, list) and all(isinstance(number, Ratio) for number in told))
        self.same(list(paper_of(("crested", THREE * THREE))), ["", "a", "b", "c", "aa", "ab", "ac", "bb", "bc", "cc"])
        self.same([paper_of(("crested", THREE)), paper_of(("dented", GAP)), paper_of(("more", [[2, 1], [1, 2]]))],
                  [crest_paper(THREE), dent(GAP), two_above([[2, 1], [1, 2]])])
        self.same(paper_of(("lets", GAP, [2, 2], 4)), crest_paper(with_amount(GAP, [2, 2], 4)))
        self.same(paper_of(("bars", GAP, [2, 2], HALF)), dent(with_amount(GAP, [2, 2], HALF)))

    def test_short_numbers(self):
        """Lists with a value below 0 are told by short numbers, also of tables of long ones."""
        draw = random.Random(933)
        table = [[0] * 20 for _ in range(20)]
        for row in range(20):
            for column in range(row + 1):
                table[row][column] = table[column][row] = Ratio(draw.randint(-10 ** 6, 10 ** 6), draw.randint(1, 10 ** 6))
        told = paper_of(("sunk", table))
        self.assertTrue(plain_value(table, told, told) < 0)
        self.assertLessEqual(max(len(str(number)) for number in told), 2000)
        # just below 0 along one list, above it along all that are far from it
        near = [[1, Ratio(999_999, 10 ** 6)], [Ratio(999_999, 10 ** 6), Ratio(999_997, 10 ** 6)]]
        told = paper_of(("sunk", near))
        self.assertTrue(plain_value(near, told, told) < 0)

    def test_judge(self):
        """Papers by their own words: right ones, of other claims, with one thing changed, of other kinds."""
        for pair in claims(934):
            told = [paper_of(claim) for claim in pair]
            shown = told[0] if told[0] is not None else told[1]
            values = told + ["a", "b", "ab", "", [], (), {}, 0, 1, 2, 3, [0, 1], [1, 0], ([0], [0, 1]), None, True, [1], [0]]
            if len(repr(shown)) < 150:
                values += one_thing_changed(shown)
            for claim in pair:
                for value in values:
                    self.same(is_paper_of(claim, value), is_right(claim, value))

    def test_judge_of_squares(self):
        for table in ([[0, 1], [1, 0]], [[2, 0], [0, 3]], [[1, 1], [1, 1]], [[-1]], [[0, 0], [0, 0]]):
            values = [squares(table), tuple(squares(table)), [(1, [1, 1])], [(HALF, [1, 1]), (-HALF, [1, -1])],
                      [(2, [1, 0]), (3, [0, 1])], [(1, [1, 0]), (1, [1, 1])], [(-1, [1])], [(1, [1]), (-2, [1])]]
            for word in ("one", "more", "sound", "sunk"):
                for value in values:
                    self.same(is_paper_of((word, table), value), is_right((word, table), value))
                right = [value for value in ODD_VALUES if is_right((word, table), value)]
                self.judges(lambda value, claim=(word, table): is_paper_of(claim, value), right)

    def test_judge_of_parts(self):
        blend = Blend("abcdef", [((1, 1, 0, 0, 0, 0), 1), ((0, 0, 2, 0, 0, 0), 3), ((0, 0, 0, 1, 1, 0), 1)])
        right = ["ab", "c", "de", "abc", "abde", "cde"]
        for value in right + ["", "a", "b", "ba", "aab", "bc", "cab", "f", "abf", "cf", "abcde", "abcdef", "ac", "cc", "A",
                              ["ab"], ("a", "b"), None, b"ab"]:
            self.assertIs(is_paper_of(("apart", blend), value), value in right)
        self.same(paper_of(("apart", blend)), "ab")

    def test_judge_of_rows(self):
        slacks = [Ratio(2, 3), Ratio(1, 9)]
        self.same([is_paper_of(("even", [1, 3, 1, 0]), value) for value in (
            slacks, tuple(slacks), slacks[::-1], slacks[:1], slacks + [Ratio(0)], [Ratio(2, 3), HALF], None)],
            [True, True, False, False, False, False, False])
        # a gap: its numbers may be from 0 on, but it is a dip
        self.same([is_paper_of(("even", [1, 0, 0, 1]), [0, 0]), is_paper_of(("even", [1, 2, 1]), [0]),
                   is_paper_of(("even", [1, 1, 1]), [Ratio(-3, 4)]), is_paper_of(("even", [1, 2, 1]), [False]),
                   is_paper_of(("even", [5, 1]), ()), is_paper_of(("even", [0, 0, 1]), [0])],
                  [False, True, False, False, True, True])
        self.same([is_paper_of(("dips", [1, 0, 0, 1]), value) for value in (0, 1, 2, 3, -1, True, Ratio(1), None)],
                  [False, True, True, False, False, False, False, False])
        self.same([is_paper_of(("choice", [[0, 1], [1, 1]]), value) for value in (
            [1, 0], (1, 0), [0, 1], [1, 1], [1], [1, 0, 0], [1, -2], [1, False], [1, Ratio(0)], ["1", 0], None)],
            [True, True] + [False] * 9)
        for place in permutations(range(3)):
            self.same(is_paper_of(("choice", [[1, 1, 0], [0, 1, 1], [1, 0, 1]]), place), place in ((0, 1, 2), (1, 2, 0)))

    def test_edges(self):
        nought = Blend("ab")
        self.same([is_true((word, nought)) for word in ("crested", "whole", "exchanges", "dented", "apart", "stuck")],
                  [True] * 3 + [False] * 3)
        # of degree 1 two letters do not hang together
        self.same([is_true(("apart", Blend("ab", [((1, 0), 1), ((0, 1), 1)]))), is_true(("lets", nought, (0, 0), 1)),
                   is_true(("bars", Blend("ab", [((2, 0), 1)]), (0, 2), 7)), is_true(("one", [[0] * 3] * 3))], [True] * 4)
        self.same([is_claim(("crested", OVER)), is_claim(("dented", OVER)), is_claim(("crested", JUST)),
                   is_claim(("lets", OVER, JUST_301[0], 2)), is_claim(("bars", OVER, JUST_301[0], 2)),
                   is_claim(("whole", OVER)), is_claim(("apart", OVER)), is_claim(("exchanges", WIDE)),
                   is_claim(("stuck", WIDE)), is_claim(("stuck", OVER)), mates(OVER)],
                  [False, False, True, False, False, True, True, False, False, True, None])
        full = Blend("abcdefgh", [(counts, 1) for counts in all_counts(8, 4)[:300]])
        self.same([is_claim(("lets", full, all_counts(8, 4)[300], 1)), is_claim(("lets", full, all_counts(8, 4)[299], 1))],
                  [False, is_claim(("crested", full))])

    def test_no_claims(self):
        wrong = [*ODD_VALUES]
        for first, second in LINES:
            good = {"crested": (GAP,), "whole": (GAP,), "exchanges": (GAP,), "one": ([[1]],), "sound": ([[1]],),
                    "even": ([1, 2, 1],), "choice": ([[1]],), "lets": (GAP, (2, 2), 1)}[first]
            for word in (first, second):
                claim = (word, *good)
                self.assertIs(is_claim(claim), True)
                wrong += [list(claim), claim[:-1], (*claim, 1), (*claim, good[0]), (word.upper(), *good), (None, *good),
                          ([word], *good), ((word,), *good), (word + " ", *good), good, ("", *good)]
                for value in ODD_VALUES:
                    kinds = {"even": [(1, 2, 3)], "one": [[[1]]], "sound": [[[1]]], "choice": [[[1]]]}
                    if first in ("crested", "whole", "exchanges") and isinstance(value, Blend):
                        continue
                    if any(exact(value) == exact(one) for one in kinds.get(first, [])):
                        continue
                    wrong.append((word, value, *good[1:]))
        for word in LINES[7]:
            wrong += [(word, GAP, counts, 1) for counts in ((1, 1), (2, 2, 0), None, (True, 3), (-1, 5), [3], "22")]
            wrong += [(word, GAP, (2, 2), number) for number in (0, -1, Ratio(0), True, None, "1", [1], Ratio(-1, 2))]
        for word in LINES[3] + LINES[4]:
            wrong += [(word, table) for table in ([[1, 2], [3, 1]], [[1, 2]], [[0] * 21] * 21, [[True]], GAP)]
        wrong += [("even", [1]), ("dips", [0, 0]), ("even", [1] * 10), ("dips", [1, -1]), ("choice", [[1] * 6] * 6),
                  ("none", [[1, 2]]), ("none", [[-1]])]
        for value in wrong:
            self.assertIs(is_claim(value), False, value)
            for call in CALLS:
                self.fails(InvalidClaim(value), call, value)
            self.fails(InvalidClaim(value), is_paper_of, value, None)
        for value in wrong[::9]:
            self.fails(InvalidClaim(value), is_true, claim=value)
            self.fails(InvalidClaim(value), is_paper_of, value="a", claim=value)
            self.fails(InvalidClaim(value), contrary, claim=value)
            self.fails(InvalidClaim(value), paper_of, claim=value)

    def test_one_thing_changed(self):
        """Claims with one thing changed are claims, or are told by a bool to be none."""
        for claim in (("one", [[1, 2], [2, 1]]), ("even", [1, 2, 1]), ("none", [[0, 1], [0, 2]]),
                      ("lets", GAP, (2, 2), 1), ("dented", GAP)):
            for value in one_thing_changed(claim):
                told = is_claim(value)
                self.assertIs(type(told), bool)
                if told:
                    self.same(is_true(value), plain_true(value) == (value[0] in [first for first, _ in LINES]))
                else:
                    self.fails(InvalidClaim(value), is_true, value)
