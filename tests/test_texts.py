"""Written forms, and reading them [91], [92]."""

import random

from onecrest.blends import Blend
from onecrest.errors import InvalidText, InvalidThing
from onecrest.forms import read
from onecrest.judge import crest_paper, dent
from onecrest.ratios import Ratio
from onecrest.tables import is_table
from onecrest.texts import written
from plain import ODD_VALUES, Case, all_counts, exact, fraction, one_thing_changed, random_above, random_number, ratio
from test_judge import mixed_blends
from test_tables import NO_TABLES, tables

HALF = Ratio(1, 2)
BLEND = "blend ab\nproduct 1 1 3\nproduct 2 0 1/2\n"
TABLE = "table 2\nrow 1 -1/2\nrow -1/2 0\n"
DENT = "dent ab\nweights 1 1/3\ndirection -1 0\n"
PAPER = ("paper\nat - tree\ntie a b 1 1 2\ntie c a 0 12\nat b tree\nat ab squares\nsquare -1/2 0 1\nsquare 3 7\n"
         "at bb squares\nsquare 1 1 1 1 1 1 1 1 1\n")
FULL = all_counts(8, 4)


def number_word(number):
    number = fraction(number)
    return str(number.numerator) if number.denominator == 1 else f"{number.numerator}/{number.denominator}"


def plain_written(thing):
    """Line by line, by the table of [91]."""
    if isinstance(thing, Blend):
        lines = [["blend", thing.letters]]
        lines += [["product", *map(str, counts), number_word(amount)] for counts, amount in sorted(
            thing.entries(), key=lambda entry: entry[0])]
    elif isinstance(thing, dict):
        lines = [["paper"]]
        for length, way in sorted((len(way), way) for way in thing):
            squared = len(thing[way]) > 0 and len(thing[way][0]) == 2
            lines.append(["at", way or "-", "squares" if squared else "tree"])
            for part in thing[way]:
                if squared:
                    lines.append(["square", *map(number_word, [part[0], *part[1]])])
                else:
                    lines.append(["tie", part[0], part[1], *map(str, part[2])])
    elif isinstance(thing[0], str):
        lines = [["dent", thing[0] or "-"], ["weights", *map(number_word, thing[1])],
                 ["direction", *map(number_word, thing[2])]]
    else:
        lines = [["table", str(len(thing))], *(["row", *map(number_word, row)] for row in thing)]
    return "".join(" ".join(words) + "\n" for words in lines)


def as_read(thing):
    """The thing as reading tells it: Ratios, lists; ties and squares tuples, counts of ties tuples."""
    if isinstance(thing, Blend):
        return thing
    if isinstance(thing, dict):
        return {way: [(part[0], part[1], tuple(part[2])) if len(part) == 3 else
                      (ratio(fraction(part[0])), ratios(part[1])) for part in thing[way]]
                for length, way in sorted((len(way), way) for way in thing)}
    if isinstance(thing[0], str):
        return thing[0], ratios(thing[1]), ratios(thing[2])
    return [ratios(row) for row in thing]


def ratios(numbers):
    return [ratio(fraction(number)) for number in numbers]


def any_way(draw):
    return "".join(sorted(draw.choice("abz") for _ in range(draw.randint(0, 8))))


def things(seed, many=30):
    """Blends, tables, dents and papers, lists and tuples, INTEGERS and Ratios mixed."""
    draw = random.Random(seed)
    for blend in mixed_blends(seed, 6):
        yield blend
        told = crest_paper(blend) if crest_paper(blend) is not None else dent(blend)
        yield told
    for table in tables(seed, many // 3):
        yield table
        yield tuple(map(tuple, table))
    for at in range(many):
        size = draw.randint(1, 8)
        kind = draw.choice([list, tuple])
        weights, direction = [random_above(draw) for _ in range(size)], [random_number(draw) for _ in range(size)]
        yield any_way(draw), kind(weights), direction
        paper = {}
        for _ in range(draw.randint(0, 4)):
            if draw.random() < 0.5:
                shown = [(*draw.sample("abcz", 2), kind([draw.randint(0, 20) for _ in range(draw.randint(1, 8))]))
                         for _ in range(draw.randint(0, 3))]
            else:
                shown = [(draw.choice([-1, 1, HALF]), kind([random_number(draw) for _ in range(draw.randint(1, 8))]))
                         for _ in range(draw.randint(1, 3))]
            paper[any_way(draw)] = kind(shown)
        yield paper


class WrittenTest(Case):
    def test_document(self):
        self.same([written(Blend("ab", [((2, 0), 1), ((1, 1), 3)])), written(("ab", [1, 1], [1, -1])),
                   written({"": [("a", "b", (1, 1))]})],
                  ["blend ab\nproduct 1 1 3\nproduct 2 0 1\n", "dent ab\nweights 1 1\ndirection 1 -1\n",
                   "paper\nat - tree\ntie a b 1 1\n"])

    def test_line_by_line(self):
        kinds = set()
        for thing in things(911):
            told = self.keeps(written, thing)
            self.same(told, plain_written(thing))
            self.same(written(thing=thing), told)
            again = self.keeps(read, told)
            self.same(again, as_read(thing))
            self.same(read(text=told), again)
            self.same(written(again), told)
            if isinstance(thing, dict):
                self.same(written(dict(reversed(list(thing.items())))), told)
            kinds.add(told.split(" ")[0])
        self.assertLessEqual({"blend", "table", "dent"}, kinds)

    def test_edges(self):
        self.same([written(Blend("xyz")), written(Blend("a", [((0,), Ratio(-6, -4))])), written([[0]]), written({})],
                  ["blend xyz\n", "blend a\nproduct 0 3/2\n", "table 1\nrow 0\n", "paper\n"])
        self.same([written({"": []}), written({"": ()}), written({"ab": [(-1, (0, HALF))], "": [], "b": []})],
                  ["paper\nat - tree\n"] * 2 + ["paper\nat - tree\nat b tree\nat ab squares\nsquare -1 0 1/2\n"])
        self.same(written(("", (1,), (Ratio(0),))), "dent -\nweights 1\ndirection 0\n")
        self.same(written(Blend("abcdefgh", [(counts, 1) for counts in FULL[:300]])).count("\n"), 301)
        for text in (BLEND, TABLE, DENT, PAPER, "blend ab\n", "paper\n"):
            self.same(written(read(text)), text)
            self.same(plain_written(read(text)), text)

    def test_wrong(self):
        right = [exact(value) for value in ODD_VALUES if isinstance(value, Blend) or is_table(value)] + [exact({})]
        for value in ODD_VALUES:
            if exact(value) in right:
                self.same(read(written(value)), as_read(value))
            else:
                self.fails(InvalidThing(value), written, value)
                self.fails(InvalidThing(value), written, thing=value)
        for value in NO_TABLES:
            self.fails(InvalidThing(value), written, value)
        for way, weights, direction in (("ba", [1], [1]), ("A", [1], [1]), ("a" * 9, [1], [1]), (None, [1], [1]),
                                        ("a", [], []), ("a", [0], [1]), ("a", [-1], [1]), ("a", [1, 1], [1]),
                                        ("a", [1], [True]), ("a", [True], [1]), ("a", [1] * 9, [1] * 9), ("a", 1, 1),
                                        ("a", "1", "1"), ("a", [1], None), (["a"], [1], [1]), ("a1", [1], [1])):
            self.fails(InvalidThing((way, weights, direction)), written, (way, weights, direction))
        self.fails(InvalidThing(["ab", [1, 1], [1, -1]]), written, ["ab", [1, 1], [1, -1]])
        tie, square = ("a", "b", [1, 1]), (1, [1, 1])
        for shown in ([tie, square], [square, tie], tie, square, None, "ab", {}, [list(tie)], [list(square)], [()],
                      [("a", "a", [1])], [("a", "B", [1])], [("a", "bc", [1])], [("a", None, [1])], [("a", "b", [])],
                      [("a", "b", [1] * 9)], [("a", "b", [-1])], [("a", "b", [True])], [("a", "b", [HALF])],
                      [("a", "b", 1)], [("a", "b", [1], 1)], [(0, [1])], [(Ratio(0), [1])], [(True, [1])], [(1, [])],
                      [(1, [1] * 9)], [(1, [True])], [(1, [None])], [(1, 1)], [(1, [1], 1)], [(1,)], [None]):
            self.fails(InvalidThing({"a": shown}), written, {"a": shown})
        for key in ("ba", "a" * 9, "A", 1, None, True, ("a",), "a ", "-"):
            self.fails(InvalidThing({key: []}), written, {key: []})
            self.fails(InvalidThing({"a": [], key: [tie]}), written, {"a": [], key: [tie]})

    def test_one_thing_changed(self):
        """By their form alone: what is changed a little is written and read again, or is no thing at all."""
        for thing in (read(DENT), read(PAPER), read(TABLE)):
            met = set()
            for value in one_thing_changed(thing):
                try:
                    told = written(value)
                except InvalidThing as error:
                    self.same(error.value, value)
                    met.add(False)
                    continue
                met.add(True)
                self.same(told, plain_written(value))
                self.same(read(told), as_read(value))
            self.assertIn(False, met)


class ReadTest(Case):
    def test_document(self):
        self.same([read("blend ab\nproduct 0 2 1/2\n") == Blend("ab", [((0, 2), 1)]).scaled(read("table 1\nrow 1/2\n")[0][0]),
                   read("paper\nat ab tree\n")], [True, {"ab": []}])

    def test_kinds(self):
        self.same(read(BLEND), Blend("ab", [((2, 0), HALF), ((1, 1), 3)]))
        self.same(read(TABLE), [[Ratio(1), -HALF], [-HALF, Ratio(0)]])
        self.same(read(DENT), ("ab", [Ratio(1), Ratio(1, 3)], [Ratio(-1), Ratio(0)]))
        self.same(read(PAPER), {
            "": [("a", "b", (1, 1, 2)), ("c", "a", (0, 12))], "b": [],
            "ab": [(-HALF, [Ratio(0), Ratio(1)]), (Ratio(3), [Ratio(7)])], "bb": [(Ratio(1), [Ratio(1)] * 8)]})
        self.same(list(read("paper\nat zz tree\nat aaa tree\n")), ["zz", "aaa"])
        self.same([read("blend a\n"), read("paper\n"), read("dent -\nweights 2\ndirection 0\n")],
                  [Blend("a"), {}, ("", [Ratio(2)], [Ratio(0)])])

    def wrong(self, line, text):
        self.fails(InvalidText(line), read, text)
        self.fails(InvalidText(line), read, text=text)

    def test_no_strings(self):
        for value in ODD_VALUES:
            if not isinstance(value, str):
                self.wrong(0, value)

    def test_lines_that_lack(self):
        for text in (BLEND, TABLE, DENT, PAPER):
            lines = text.split("\n")[:-1]
            for many in range(len(lines)):
                part = "".join(line + "\n" for line in lines[:many])
                try:
                    told = read(part)
                except InvalidText as error:
                    self.same(error.line, many + 1)
                else:
                    self.same(written(told), part)
                # a last line without a line feed
                self.wrong(many + 1, part + lines[many])
                self.wrong(many + 1, part + lines[many][:-1])
            self.wrong(len(lines), text[:-1])
            for more in ("\n", " ", " \n", "x", "x\n", "blend a\n", "row 1\n", "tie a b\n"):
                self.wrong(len(lines) + 1, text + more)
        self.wrong(1, "")
        self.wrong(2, "table 1\n")
        self.wrong(2, "dent a\n")
        self.wrong(3, "dent a\nweights 1\n")
        self.wrong(3, "paper\nat - squares\n")
        self.wrong(3, "paper\nat - squares\nat a tree\n")
        self.wrong(4, "paper\nat - tree\nat a squares\n")

    def test_first_lines(self):
        for line in ("", " ", "blend", "blend ", "blend ba", "blend aa", "blend A", "blend abcdefghi", "blend a b", "blend  a",
                     "Blend a", " blend a", "blend a ", "table", "table 0", "table 21", "table 01", "table -1", "table 1/2",
                     "table a", "table 1 1", "dent", "dent ba", "dent A", "dent aaaaaaaaa", "dent --", "dent a b", "paper ",
                     "paper -", "papers", "row 1", "product 1 1", "at - tree", "weights 1", "dent a-"):
            self.wrong(1, line + "\n")
            self.wrong(1, line + "\nrow 1\n")
            self.wrong(1, line)

    def test_numbers(self):
        for word in ("-0", "01", "-01", "00", "+1", "1/1", "2/4", "0/2", "1/-2", "-2/4", "1/02", "1/0", "1/", "/2", "1/2/3",
                     "--1", "1.0", "", "a", "-", "1-", "1/a", "0x1", "1_0", "-/2"):
            self.wrong(2, f"table 1\nrow {word}\n")
            self.wrong(3, f"dent a\nweights 1\ndirection {word}\n")
            self.wrong(2, f"blend a\nproduct 1 {word}\n")
            self.wrong(3, f"paper\nat - squares\nsquare 1 {word}\n")
        for word, number in (("0", 0), ("-1", -1), ("10", 10), ("-7/10", Ratio(-7, 10)), ("12/5", Ratio(12, 5)),
                             ("9" * 40, int("9" * 40)), ("1/" + "7" * 40, Ratio(1, int("7" * 40)))):
            self.same(read(f"table 1\nrow {word}\n"), [[ratio(fraction(number))]])
        for word in ("01", "-1", "1/2", "", "a", "+1", "-0"):
            self.wrong(2, f"blend a\nproduct {word} 1\n")
            self.wrong(3, f"paper\nat - tree\ntie a b {word}\n")

    def test_blends(self):
        ahead = "blend ab\nproduct 1 1 3\n"
        for line in ("product 1 1 3", "product 0 2 1", "product 3 0 1", "product 1 0 1", "product 2 0 0", "product 2 0 -1",
                     "product 2 0", "product 2 0 1 1", "product 2  0 1", "product 2 0 1 ", "Product 2 0 1", "row 2 0 1",
                     "product", "product ", "", "product 2 0 1/1"):
            self.wrong(3, ahead + line + "\n")
            self.wrong(3, ahead + line + "\nproduct 2 0 1\n")
        for line in ("product 9 0 1", "product 2 1", "product 1 1 1 1", "product 1", "product 0 0 0 1"):
            self.wrong(2, f"blend ab\n{line}\n")
        self.wrong(3, ahead + "product 2 0 0 1\n")
        self.wrong(2, "blend ab\nproduct 4 5 1\n")
        self.same(read("blend ab\nproduct 4 4 1\n").degree, 8)
        lines = [f"product {' '.join(map(str, counts))} 1\n" for counts in FULL[:302]]
        self.same(len(read("blend abcdefgh\n" + "".join(lines[:300]))), 300)
        self.wrong(302, "blend abcdefgh\n" + "".join(lines[:301]))
        self.wrong(302, "blend abcdefgh\n" + "".join(lines[:302]))
        self.wrong(6, "blend abcdefgh\n" + "".join(lines[:3] + lines[4:5] + lines[3:4]))

    def test_tables(self):
        self.wrong(3, "table 2\nrow 1 2\nrow 3 1\n")
        self.wrong(4, "table 3\nrow 1 2 3\nrow 2 1 5\nrow 3 4 1\n")
        self.wrong(4, "table 3\nrow 1 2 3\nrow 2 1 5\nrow 4 5 1\n")
        self.wrong(4, "table 2\nrow 1 2\nrow 2 1\nrow 1 1\n")
        self.wrong(2, "table 2\nrow 1\n")
        self.wrong(2, "table 2\nrow 1 2 3\n")
        self.wrong(2, "table 1\nrows 1\n")
        self.wrong(2, "table 1\nrow\n")
        self.wrong(3, "table 2\nrow 1 2\n")
        wide = "table 20\n" + ("row" + " 0" * 20 + "\n") * 20
        self.same(read(wide), [[Ratio(0)] * 20] * 20)

    def test_dents(self):
        for line in ("weights 0", "weights -1", "weights", "weights ", "weights" + " 1" * 9, "direction 1", "weight 1",
                     "weights 1 0"):
            self.wrong(2, f"dent a\n{line}\ndirection 1\n")
        for line in ("direction 1 1 1", "direction 1", "direction", "weights 1 1", "direction 1 x"):
            self.wrong(3, f"dent a\nweights 1 2\n{line}\n")
        self.wrong(4, "dent a\nweights 1\ndirection 1\ndirection 1\n")
        self.same(read("dent zz\nweights" + " 1" * 8 + "\ndirection" + " 0" * 8 + "\n"),
                  ("zz", [Ratio(1)] * 8, [Ratio(0)] * 8))

    def test_papers(self):
        for line in ("tie a b 1", "square 1 1", "at", "at -", "at - trees", "at ba tree", "at - tree 1", "at aaaaaaaaa tree",
                     "at A tree", "at  tree", "At - tree", "", "-"):
            self.wrong(2, f"paper\n{line}\n")
        for line in ("tie a a 1", "tie a 1", "tie a b", "tie a b" + " 1" * 9, "tie A b 1", "tie ab c 1", "tie a B 1", "tie a bc 1", "tie a - 1", "tip a b 1", "at a b 1",
                     "tie a b -1",
                     "square 1 1", "tie", "at - tree", "tie  a b 1", "tie a b 1 "):
            self.wrong(3, f"paper\nat - tree\n{line}\n")
        for line in ("square 0 1", "square 1", "square 1" + " 1" * 9, "square", "tie a b 1", "at a tree", "squares 1 1"):
            self.wrong(3, f"paper\nat - squares\n{line}\n")
        for ahead, way in (("a", "-"), ("a", "a"), ("b", "a"), ("ab", "b"), ("bb", "ab"), ("zzzzzzzz", "aaaaaaaa"),
                           ("ab", "ab")):
            self.wrong(3, f"paper\nat {ahead} tree\nat {way} tree\n")
            self.wrong(4, f"paper\nat {ahead} squares\nsquare 1 1\nat {way} squares\n")
        self.wrong(5, "paper\nat - squares\nsquare 1 1\nsquare 2 2\ntie a b 1\n")

    def test_one_line_changed(self):
        """A line left out, put in twice, or in another's place: read as written, or wrong at a line."""
        for text in (BLEND, TABLE, DENT, PAPER):
            lines = text.split("\n")[:-1]
            for at in range(len(lines)):
                for part in (lines[:at] + lines[at + 1:], lines[:at] + [lines[at]] * 2 + lines[at + 1:],
                             lines[at:] + lines[:at]):
                    changed = "".join(line + "\n" for line in part)
                    try:
                        told = read(changed)
                    except InvalidText as error:
                        self.assertTrue(1 <= error.line <= len(part) + 1)
                        # the lines ahead of it are no fault: with them alone the wrong one is a later line, or none
                        ahead = "".join(line + "\n" for line in part[:error.line - 1])
                        try:
                            self.same(written(read(ahead)), ahead)
                        except InvalidText as other:
                            self.same(other.line, error.line)
                    else:
                        self.same(written(told), changed)
