"""Desks: deeds and answers, states, what is taken back, papers, copies, trials [95] to [98]."""

import random

from onecrest.blends import Blend
from onecrest.chances import chance
from onecrest.changes import alike, cut
from onecrest.claims import contrary, is_claim, is_true, paper_of
from onecrest.desk import Desk, Trial, tried
from onecrest.errors import (CommandFailed, InvalidClaim, InvalidCommand, InvalidCounts, InvalidLetter, InvalidLines,
                             InvalidLot, InvalidNumber, InvalidPaper, InvalidWay, LabelTaken, NameTaken, NothingToRedo,
                             NothingToUndo, NotLots, NotQuadric, TooMany, UnknownLabel, UnknownName, UnlikeBlends)
from onecrest.exchange import misfit
from onecrest.hulls import reach
from onecrest.judge import fault, is_crested, is_dent
from onecrest.moved import with_amount, without
from onecrest.pieces import apart_way, pieces
from onecrest.quadrics import table_of
from onecrest.ratios import Ratio
from onecrest.signs import signs
from onecrest.taken import is_way, taken
from onecrest.worths import bend, bends_up, lean, slope, worth
from plain import ODD_VALUES, Case, all_counts, exact, one_thing_changed
from test_commands import WORDS
from test_taken import JUST_301

HALF = Ratio(1, 2)
# labels for all words: one of these is longer than a label may be
LABELS = [word[:8] for word in WORDS]
GAP = ["blend f ab", "put f aaab 1", "put f abbb 1"]
CROSS = ["blend x abcd", "put x ab 1", "put x cd 1"]
WEB = ["blend w abc", "put w ab 1", "put w ac 1", "put w bc 1"]
NO_COMMANDS = [*ODD_VALUES, "", "blend", "blend f", "blend f ba", "put f aba 1", "put f ab 0", "names ", "undo 1", ["names"]]


def desk_of(*commands):
    desk = Desk()
    desk.do_all(*commands)
    return desk


def all_of(desk):
    """All that a desk tells of itself."""
    labels = {label: (desk.do(f"state {label}"), desk.do(f"claimed {label}"), exact(desk.claim_of(label)), desk.fits(label))
              for label in desk.labels}
    return (desk.names, {name: exact(desk[name]) for name in desk.names}, labels, desk.lines(), len(desk),
            [(str(desk.weight(letter)), str(desk.pace(letter))) for letter in "abcdefghijklmnopqrstuvwxyz"], desk.do("states"))


def put_all(blend, name):
    """The commands that make a blend."""
    lines = [f"blend {name} {blend.letters}"]
    for counts, amount in blend.entries():
        product = "".join(letter * count for letter, count in zip(blend.letters, counts)) or "-"
        lines.append(f"put {name} {product} {amount}")
    return lines


class Plain:
    """A desk of the tests: it reckons each state anew, and keeps a copy of all for what is taken back."""

    def __init__(self):
        self.blends, self.labels = {}, {}
        self.weights, self.paces = {}, {}
        self.done, self.undone = [], []

    def claim(self, word, name, way):
        left = taken(self.blends[name], "" if way == "-" else way)
        if word in ("one", "more", "sound", "sunk"):
            return word, table_of(left) if left.degree == 2 else None
        if word in ("even", "dips"):
            row = None
            if len(left.letters) == 2 and left.degree:
                row = [left.amount([k, left.degree - k]) for k in range(left.degree + 1)]
            return word, row
        return word, left

    def state(self, label):
        word, name, way = self.labels[label]
        if name not in self.blends or not is_way(self.blends[name], "" if way == "-" else way):
            return "gone"
        claim = self.claim(word, name, way)
        if not is_claim(claim):
            return "gone"
        return "true" if is_true(claim) else "false"

    def states(self):
        return {label: self.state(label) for label in sorted(self.labels)}

    def all(self):
        return dict(self.blends), dict(self.labels), dict(self.weights), dict(self.paces)

    def put(self, told):
        self.blends, self.labels, self.weights, self.paces = [dict(part) for part in told]

    def do(self, command):
        word, *parts = command.split(" ")
        ahead, kept = self.states(), self.all()
        if word == "undo":
            line, told = self.done.pop()
            self.undone.append((line, kept))
            self.put(told)
            return line
        if word == "redo":
            line, told = self.undone.pop()
            self.done.append((line, kept))
            self.put(told)
            return line
        self.deed(word, parts)
        self.done.append((command, kept))
        self.undone = []
        now = self.states()
        changed = [label for label in now if label not in ahead or ahead[label] != now[label]]
        return ", ".join(f"{label} {now[label]}" for label in changed) or "-"

    def deed(self, word, parts):
        blends = self.blends
        way = "" if parts[-1] == "-" else parts[-1]
        if word == "blend":
            blends[parts[0]] = Blend(parts[1])
        elif word in ("put", "take"):
            blend = blends[parts[0]]
            counts = [parts[1].count(letter) for letter in blend.letters]
            blends[parts[0]] = with_amount(blend, counts, number(parts[2])) if word == "put" else without(blend, counts)
        elif word == "scale":
            blends[parts[0]] = blends[parts[0]].scaled(number(parts[1]))
        elif word in ("copy", "left"):
            blends[parts[0]] = blends[parts[1]] if word == "copy" else taken(blends[parts[1]], way)
        elif word in ("sum", "times"):
            one, two = blends[parts[1]], blends[parts[2]]
            blends[parts[0]] = one + two if word == "sum" else one * two
        elif word == "alike":
            blends[parts[0]] = alike(blends[parts[1]], parts[2], parts[3])
        elif word == "cut":
            blends[parts[0]] = cut(blends[parts[1]], parts[2], int(parts[3]))
        elif word == "drop":
            del blends[parts[0]]
        elif word in ("weigh", "pace"):
            (self.weights if word == "weigh" else self.paces)[parts[0]] = number(parts[1])
        elif word == "go":
            for letter in "abcdefghijklmnopqrstuvwxyz":
                self.weights[letter] = self.weights.get(letter, Ratio(1)) + number(parts[0]) * self.paces.get(letter, 0)
        elif word == "claim":
            self.labels[parts[0]] = tuple(parts[1:])
        else:
            del self.labels[parts[0]]


def number(word):
    top, _, bottom = word.partition("/")
    return Ratio(int(top), int(bottom or 1))


def random_command(draw, desk):
    """A command that mostly goes with what is kept."""
    names, labels = desk.names or ["f"], desk.labels or ["l"]
    name, other = draw.choice(names), draw.choice(names)
    fresh = draw.choice(["f", "g", "h", "p", "q", "r1"])
    letters = desk[name].letters if name in desk else "ab"
    product = "".join(sorted(draw.choice(letters) for _ in range(desk[name].degree or draw.choice([2, 2, 3])))
                      ) if name in desk and not desk[name].degree == 0 else "-"
    way = draw.choice(["-", "-", "-", draw.choice(letters), "ab"])
    return draw.choice([
        f"blend {fresh} {draw.choice(['ab', 'ab', 'abc', 'a'])}", f"put {name} {product} {draw.choice([1, 2, 3, '1/2'])}",
        f"put {name} {product} {draw.choice([1, 2, 5])}", f"put {name} {product} 1", f"take {name} {product}",
        f"scale {name} 2/3", f"copy {fresh} {name}", f"left {fresh} {name} {way}", f"sum {fresh} {name} {other}",
        f"times {fresh} {name} {other}", f"alike {fresh} {name} a b", f"cut {fresh} {name} a 1", f"drop {name}",
        f"weigh {draw.choice('abz')} 1/2", f"pace {draw.choice('ab')} {draw.choice([1, -1, '-1/3'])}",
        f"go {draw.choice([1, -1, '1/2', 0])}", f"claim {draw.choice('klmn')} {draw.choice(WORDS)} {name} {way}",
        f"claim {draw.choice('klmn')} {draw.choice(WORDS)} {name} -", f"forget {draw.choice(labels)}", "undo", "undo", "redo"])


class DeskTest(Case):
    def test_document(self):
        desk = Desk()
        told = desk.do_all("blend f ab", "claim ok crested f -", "put f aa 1", "put f bb 1", "pace a 1", "pace b -1",
                           "swells f", "put f ab 2", "swells f", "undo", "fault f")
        self.same(told, ["-", "ok true", "-", "ok false", "-", "-", "yes", "ok true", "no", "put f ab 2", "-"])
        self.same([desk.do("worth f"), desk.do("lean f"), desk.attach("ok", ("", [1, 1], [1, -1])), desk.fits("ok"),
                   desk.do("redo"), desk.fits("ok")], ["2", "8", None, True, "put f ab 2", False])

    def test_new_desk(self):
        desk = Desk()
        self.same([desk.names, desk.labels, len(desk), desk.lines(), desk.do_all(), desk.do("names"), desk.do("states")],
                  [[], [], 0, [], [], "-", "-"])
        self.same([desk.weight("a"), desk.weight("z"), desk.pace("m")], [Ratio(1), Ratio(1), Ratio(0)])
        self.fails(NothingToUndo(), desk.do, "undo")
        self.fails(NothingToRedo(), desk.do, "redo")
        with self.assertRaises(TypeError):
            list(desk)

    def test_deeds(self):
        desk = desk_of("blend f abc", "put f ab 3", "put f bc 1/2", "put f ab 1", "blend n abc", "put n c 999999/2")
        f = Blend("abc", [((1, 1, 0), 1), ((0, 1, 1), HALF)])
        n = Blend("abc", [((0, 0, 1), Ratio(999999, 2))])
        self.same([desk["f"], desk["n"], desk("names")], [f, n, "f n"])
        self.same(desk.do_all("copy c f", "left l f b", "sum s f f", "times t f n", "alike a f a c", "cut k f a 0"),
                  ["-"] * 6)
        self.same([desk[name] for name in "clstak"], [f, taken(f, "b"), f + f, f * n, alike(f, "a", "c"), cut(f, "a", 0)])
        self.same(desk.do_all("scale c 2/3", "take c ab", "drop a", "drop k"), ["-"] * 4)
        self.same([desk["c"], desk.names, desk["f"]],
                  [without(f.scaled(Ratio(2, 3)), (1, 1, 0)), ["c", "f", "l", "n", "s", "t"], f])
        self.same(desk.do_all("blend e a", "put e - 7", "products e", "take e -", "products e", "left a e -", "products a"),
                  ["-", "-", "- 7", "-", "-", "-", "-"])
        self.same(desk.do_all("weigh a 1/3", "pace a -1/6", "pace z 5", "go 3/2", "weights f", "paces f"),
                  ["-", "-", "-", "-", "1/12 1 1", "-1/6 0 0"])
        self.same([desk.weight("a"), desk.pace("a"), desk.weight(letter="z"), desk.pace(letter="z")],
                  [Ratio(1, 12), Ratio(-1, 6), Ratio(17, 2), Ratio(5)])

    def test_answers(self):
        desk = desk_of(*GAP, *CROSS, *WEB, "pace a 2", "pace b -1/2", "weigh a 3", "blend n z", "blend one a", "put one - 2",
                       "claim k1 crested f -", "claim k stuck f ab", "blend sq bx", "put sq bb 1", "put sq xx 3/4")
        self.same(desk.do_all("state k", "state k1", "states", "claimed k", "claimed k1", "names", "letters x"),
                  ["true", "false", "k true, k1 false", "stuck f ab", "crested f -", "f n one sq w x", "abcd"])
        self.same(desk.do_all("products f", "products n", "products one", "products sq", "weights w", "paces w"),
                  ["abbb 1, aaab 1", "-", "- 2", "xx 3/4, bb 1", "3 1 1", "2 -1/2 0"])
        for name in ("f", "x", "w", "n", "one", "sq"):
            blend = desk[name]
            weights, paces = [[tell(letter) for letter in blend.letters] for tell in (desk.weight, desk.pace)]
            self.same(desk.do_all(*[f"{word} {name}" for word in ("worth", "slope", "bend", "lean", "swells")]),
                      [str(worth(blend, weights))] + [str(tell(blend, weights, paces)) for tell in (slope, bend, lean)] +
                      ["yes" if bends_up(blend, weights, paces) else "no"])
            told, part = fault(blend), apart_way(blend)
            self.same(desk.do_all(f"crested {name}", f"fault {name}", f"parts {name}", f"pieces {name}"),
                      ["yes" if is_crested(blend) else "no", "none" if told is None else told or "-",
                       "none" if part is None else part or "-", " ".join(pieces(blend)) or "-"])
            if blend.degree == 2:
                self.same(desk.do(f"signs {name}"), " ".join(map(str, signs(table_of(blend)))))
        self.same(desk.do_all("fault f", "parts f", "fault x", "parts x", "fault w", "parts w", "pieces x", "pieces n"),
                  ["ab", "ab", "-", "-", "none", "none", "ab cd", "-"])
        self.same(desk.do_all("misfit f", "misfit x", "misfit w", "signs w", "signs x"),
                  ["abbb aaab b", "cd ab c", "none", "1 2 0", "2 2 0"])
        self.same(misfit(desk["f"]), ((1, 3), (3, 1), "b"))
        self.same(desk.do_all("reach f a", "reach f ab", "reach n z", "chance w a", "chance w ab", "chance w -", "chance x a"),
                  ["3", "4", "0", "6/7", "3/7", "1", "3/4"])
        self.same([reach(desk["f"], "a"), chance(desk["w"], [3, 1, 1], "a")], [3, Ratio(6, 7)])

    def test_asking_changes_nothing(self):
        desk = desk_of(*GAP, *CROSS, "claim k crested f -", "undo")
        ahead = all_of(desk)
        for question in ("names", "letters f", "products f", "weights f", "paces f", "worth f", "slope f", "bend f", "lean f",
                         "swells f", "crested f", "fault f", "parts f", "pieces f", "signs x", "misfit f", "reach f a",
                         "chance x -", "states"):
            self.same(desk.do(question), desk.do(question))
        self.same(all_of(desk), ahead)
        self.same(desk.do_all("redo", "state k", "claimed k"), ["claim k crested f -", "false", "crested f -"])

    def test_told_lists_are_new(self):
        desk = desk_of(*WEB, "claim k one w -", "claim r more w -")
        for tell in (lambda: desk.names, lambda: desk.labels, desk.lines, lambda: desk.claim_of("k"),
                     lambda: desk.do_all("names")):
            self.keeps(tell)

    def test_bools(self):
        desk = desk_of(*WEB, "blend undo a")
        for value in ODD_VALUES + ["w", "undo", "f", ["w"], ("w",)]:
            self.assertIs(value in desk, isinstance(value, str) and value in ("w", "undo"))

    def test_against_a_plain_desk(self):
        """Many commands at random: answers and states as those of a desk that reckons all anew."""
        draw = random.Random(961)
        failed, seen = 0, {}
        for _ in range(30):
            desk, plain = Desk(), Plain()
            for line in draw.choice([GAP, WEB, ["blend f ab", "put f aa 1", "put f bb 1"]]):
                self.same(desk.do(line), plain.do(line))
            for _ in range(60):
                command = random_command(draw, desk)
                ahead = exact((desk.names, desk.labels, desk.lines(), desk("states")))
                try:
                    told = desk.do(command)
                except (ValueError, LookupError, RuntimeError, ArithmeticError) as error:
                    self.assertTrue(type(error).__module__ == "onecrest.errors", command)
                    self.assertEqual(exact((desk.names, desk.labels, desk.lines(), desk("states"))), ahead)
                    failed += 1
                    continue
                self.same(told, plain.do(command))
                self.same({name: desk[name] for name in desk.names}, {name: plain.blends[name] for name in
                                                                      sorted(plain.blends)})
                states = plain.states()
                self.same(desk.do("states"), ", ".join(f"{label} {state}" for label, state in states.items()) or "-")
                self.same([desk.lines(), len(desk)], [[line for line, _ in plain.done], len(plain.done)])
                self.same([str(desk.weight(letter)) for letter in "abz"],
                          [str(plain.weights.get(letter, 1)) for letter in "abz"])
                for label, state in states.items():
                    seen[state] = seen.get(state, 0) + 1
                    word, name, way = plain.labels[label]
                    self.same(desk.do(f"claimed {label}"), f"{word} {name} {way}")
                    claim = None if state == "gone" else plain.claim(word, name, way)
                    self.same(desk.claim_of(label), claim)
            again = Desk.again(desk.lines())
            self.same([again.names, again.lines(), again("states")], [desk.names, desk.lines(), desk("states")])
        self.assertGreater(min(seen.get(state, 0) for state in ("true", "false", "gone")), 100)
        self.assertGreater(failed, 100)


class StateTest(Case):
    def test_dropped_and_made_again(self):
        desk = desk_of("blend f ab", "claim f crested f -", "claim a whole f a")
        self.same(desk.do_all("put f aa 1", "put f bb 1", "drop f", "states", "blend f xy", "blend g ab", "drop f",
                              "copy f g", "put f ab 1"),
                  ["-", "f false", "a gone, f gone", "a gone, f gone", "f true", "-", "f gone", "a true, f true", "-"])
        self.same([desk.claim_of("f"), desk.claim_of(label="a")],
                  [("crested", Blend("ab", [((1, 1), 1)])), ("whole", Blend("ab", [((0, 1), 1)]))])

    def test_all_words(self):
        desk = desk_of("blend f ab", "put f aa 1", "put f bb 1", *[f"claim {word[:8]} {word} f -" for word in WORDS])
        self.same(desk.do("states"), "apart true, crested false, dented true, dips true, even false, exchange false, "
                                     "more true, one false, sound true, stuck true, sunk false, whole false")
        self.same(desk.do("put f ab 2"), "apart false, crested true, dented false, dips false, even true, exchange true, "
                                         "more false, one true, stuck false, whole true")
        self.same(desk.do("put f ab 3"), "sound false, sunk true")
        self.same([desk.claim_of("one"), desk.claim_of("even")],
                  [("one", [[Ratio(2), Ratio(3)], [Ratio(3), Ratio(2)]]), ("even", [Ratio(1), Ratio(3), Ratio(1)])])
        # of degree 1 there is no table, but a row; of degree 0 neither
        self.same(desk.do_all("drop f", "blend f ab", "put f a 5"),
                  [", ".join(f"{word} gone" for word in sorted(LABELS)),
                   "apart false, crested true, dented false, exchange true, stuck false, whole true",
                   "dips false, even true"])
        self.same(desk.claim_of("dips"), ("dips", [Ratio(0), Ratio(5)]))
        self.same(desk.claim_of("one"), None)

    def test_a_claim_that_is_none_for_a_while(self):
        over = Blend("abcdefgh", [(one, 1) for one in JUST_301])
        lines = put_all(over, "f")
        desk = Desk()
        desk.do_all(*lines[:-1])
        self.same(desk.do_all("claim k crested f -", "claim w whole f -"), ["k false", "w true"])
        self.same(desk.do(lines[-1]), "k gone")
        self.same([desk.claim_of("k"), desk.do("state k"), desk.do("state w")], [None, "gone", "true"])
        self.fails(InvalidClaim(("crested", over)), desk.do, "claim m crested f -")
        for word in ("crested", "fault", "parts"):
            self.fails(TooMany("ways", 300), desk.do, f"{word} f")
        self.same([desk.do("undo"), desk.do("state k")], [lines[-1], "false"])

    def test_scaling_changes_no_state(self):
        draw = random.Random(971)
        for _ in range(10):
            desk = Desk()
            for _ in range(40):
                try:
                    desk.do(random_command(draw, desk))
                except (ValueError, LookupError, RuntimeError, ArithmeticError):
                    continue
            ahead = desk("states")
            for name in desk.names:
                self.same(desk.do_all(f"scale {name} 7/3", "states"), ["-", ahead])

    def test_what_stays_crested(self):
        """What is left, cut, made alike, and the product of two crested ones, is crested [96]."""
        draw = random.Random(972)
        met = 0
        for _ in range(12):
            desk = desk_of("blend s abc", *[f"put s {letter} {draw.randint(1, 3)}" for letter in draw.sample("abc", 2)],
                           "blend t abc", *[f"put t {letter} {draw.randint(1, 3)}" for letter in draw.sample("abc", 2)])
            for made in ("times p s t", "times q p t", "left m q a", "cut k q b 1", "alike i q c a"):
                desk.do(made)
                self.same(desk(f"crested {made.split(' ')[1]}"), "yes")
                met += 1
        self.same(met, 60)

    def test_labels(self):
        desk = desk_of("blend f ab", "put f ab 1", "claim f one f -")
        # a label may be the name of a blend, too
        self.same([desk.names, desk.labels, desk("states")], [["f"], ["f"], "f true"])
        self.same(desk.do_all("forget f", "states", "undo", "states"), ["-", "-", "forget f", "f true"])
        self.fails(LabelTaken("f"), desk.do, "claim f one f -")
        self.same(desk.do_all("claim b more f -", "claim a sunk f -"), ["b false", "a true"])
        self.same([desk.labels, desk("states")], [["a", "b", "f"], "a true, b false, f true"])
        self.same(desk.do("put f aa 1"), "-")
        self.same(desk.do("put f bb 1"), "a false, b true, f false")


class BackTest(Case):
    def test_taken_back_and_done_again(self):
        desk = Desk()
        lines = GAP + ["claim k crested f -", "put f aabb 3", "weigh a 2", "pace a 1", "go 5", "drop f", "forget k"]
        told = []
        for line in lines:
            told.append(all_of(desk))
            desk.do(line)
        last = all_of(desk)
        self.same([len(desk), desk.lines()], [len(lines), lines])
        for line, ahead in zip(lines[::-1], told[::-1]):
            self.same(desk.do("undo"), line)
            self.same(all_of(desk), ahead)
        self.fails(NothingToUndo(), desk.do, "undo")
        for line, ahead in zip(lines, told):
            self.same(all_of(desk), ahead)
            self.same(desk.do("redo"), line)
        self.same(all_of(desk), last)
        self.fails(NothingToRedo(), desk.do, "redo")

    def test_nothing_behind_a_deed(self):
        desk = desk_of(*GAP, "undo", "undo")
        self.same(desk.do_all("redo", "undo"), [GAP[1]] * 2)
        # a deed that fails, a question, a paper: none of them is a deed
        self.fails(UnknownName("g"), desk.do, "drop g")
        desk.do("names")
        self.same(desk.do("redo"), GAP[1])
        desk.do("weigh a 1")
        self.fails(NothingToRedo(), desk.do, "redo")
        self.same([desk.do("undo"), desk.lines()], ["weigh a 1", GAP[:2]])
        self.same(desk.do("redo"), "weigh a 1")

    def test_papers_are_no_deeds(self):
        desk = desk_of("blend f ab", "put f ab 1", "claim k whole f -", "weigh a 2", "undo")
        desk.attach("k", [("a", "b", (1, 1))])
        self.same([len(desk), desk.do("redo"), desk.fits("k")], [3, "weigh a 2", True])
        self.same(desk.do_all("undo", "undo", "redo"), ["weigh a 2"] + ["claim k whole f -"] * 2)
        self.same(desk.fits("k"), True)

    def test_limits(self):
        desk = desk_of(*[f"blend f{k} a" for k in range(8)], *[f"claim l{k} crested f0 -" for k in range(12)])
        ahead = all_of(desk)
        for command in ("blend g a", "copy g f0", "left g f0 -", "sum g f0 f1", "times g f0 f1", "cut g f0 a 0"):
            self.fails(TooMany("blends", 8), desk.do, command)
        self.fails(InvalidLetter("b"), desk.do, "alike g f0 a b")
        self.fails(TooMany("labels", 12), desk.do, "claim m crested f0 -")
        self.fails(InvalidClaim(("one", None)), desk.do, "claim m one f0 -")
        self.fails(NameTaken("f7"), desk.do, "blend f7 a")
        self.fails(LabelTaken("l0"), desk.do, "claim l0 crested f0 -")
        self.same(all_of(desk), ahead)
        self.same(desk.do_all("drop f3", "blend g a", "forget l5", "claim m dented g -"), ["-", "-", "-", "m false"])

    def test_300_deeds(self):
        lines = ["blend f ab"] + [f"weigh a {k}" for k in range(1, 300)]
        desk = Desk.again(lines)
        self.same([len(desk), desk.weight("a")], [300, Ratio(299)])
        for deed in ("weigh a 1", "drop f", "blend g a", "claim k crested f -", "go 0"):
            self.fails(TooMany("deeds", 300), desk.do, deed)
        self.fails(UnknownName("g"), desk.do, "drop g")
        self.same(desk.lines(), lines)
        self.same(desk.do_all("undo", "weigh b 7", "names"), ["weigh a 299", "-", "f"])
        self.fails(TooMany("deeds", 300), desk.do, "weigh a 1")
        self.same([desk.do("undo"), desk.do("redo"), len(desk)], ["weigh b 7", "weigh b 7", 300])
        with self.assertRaises(CommandFailed) as caught:
            Desk.again(lines + ["go 1"])
        self.same([caught.exception.position, vars(caught.exception.__cause__)], [300, {"what": "deeds", "limit": 300}])
        # the errors of the function, those of blends and of labels come first
        full = Desk.again([f"blend f{k} a" for k in range(8)] + [f"claim l{k} crested f0 -" for k in range(12)]
                          + ["go 1"] * 280)
        self.fails(TooMany("blends", 8), full.do, "copy g f1")
        self.fails(TooMany("labels", 12), full.do, "claim m crested f1 -")
        self.fails(InvalidWay("b"), full.do, "claim m crested f1 b")
        self.fails(InvalidNumber(Ratio(-1)), Desk.again(["pace a 1"] + ["go 0"] * 299).do, "go -1")


class ErrorsTest(Case):
    def fails_alike(self, desk, error, command):
        """The same error in each way to do it, and nothing is changed."""
        ahead = all_of(desk)
        self.fails(error, desk.do, command)
        self.fails(error, desk.do, command=command)
        self.fails(error, desk, command)
        for call in (desk.do_all, desk.attempt):
            with self.assertRaises(CommandFailed) as caught:
                call("names", "weigh q 9", command, "names")
            self.same(caught.exception.position, 2)
            cause = caught.exception.__cause__
            self.assertIs(type(cause), type(error))
            self.assertEqual(exact(vars(cause)), exact(vars(error)))
        self.same(all_of(desk), ahead)

    def test_no_commands(self):
        desk = desk_of(*GAP)
        for value in NO_COMMANDS:
            self.fails_alike(desk, InvalidCommand(value), value)

    def test_names_and_labels(self):
        desk = desk_of(*GAP, "blend g ab", "claim k crested f -")
        for error, command in (
                (NameTaken("f"), "blend f ab"), (NameTaken("f"), "copy f h"), (NameTaken("g"), "sum g h i"),
                (NameTaken("f"), "times f f f"), (NameTaken("f"), "left f h z"), (NameTaken("f"), "alike f h z z"),
                (NameTaken("f"), "cut f h z 1"), (LabelTaken("k"), "claim k one h zz"), (UnknownName("h"), "put h z 1"),
                (UnknownName("h"), "take h z"), (UnknownName("h"), "scale h 1"), (UnknownName("h"), "copy n h"),
                (UnknownName("h"), "left n h z"), (UnknownName("h"), "sum n h i"), (UnknownName("i"), "sum n f i"),
                (UnknownName("h"), "times n h i"), (UnknownName("i"), "times n f i"), (UnknownName("h"), "alike n h z z"),
                (UnknownName("h"), "cut n h z 1"), (UnknownName("h"), "drop h"), (UnknownName("h"), "claim n one h zz"),
                (UnknownName("k"), "drop k"), (UnknownLabel("f"), "forget f"), (UnknownLabel("h"), "state h"),
                (UnknownLabel("h"), "claimed h"), (NothingToRedo(), "redo"), (UnknownName("n"), "sum n n f")):
            self.fails_alike(desk, error, command)
        for word in ("letters", "products", "weights", "paces", "worth", "slope", "bend", "lean", "swells", "crested",
                     "fault", "parts", "pieces", "signs", "misfit"):
            self.fails_alike(desk, UnknownName("k"), f"{word} k")
        for word in ("reach", "chance"):
            self.fails_alike(desk, UnknownName("h"), f"{word} h z")

    def test_what_functions_raise(self):
        desk = desk_of(*GAP, *CROSS, "blend g ab", "put g ab 2", "blend e abcdefgh", "pace a 1", "pace b -1/2",
                       "blend h ab", "put h aaaaab 1")
        f, x = desk["f"], desk["x"]
        for error, command in (
                (InvalidLetter("c"), "put f aac 1"), (InvalidLetter("c"), "put f cd 1"), (InvalidLetter("z"), "take g z"),
                (InvalidLetter("y"), "put f abyz 1"), (InvalidCounts((1, 1)), "put f ab 1"), (InvalidCounts((0, 0)), "put f - 1"),
                (InvalidCounts((2, 2)), "take f aabb"), (InvalidCounts((0, 0)), "take g -"), (InvalidWay("c"), "left n f c"),
                (InvalidWay("ac"), "left n f ac"), (UnlikeBlends(), "sum n f g"), (UnlikeBlends(), "sum n f x"),
                (UnlikeBlends(), "times n g x"), (TooMany("degree", 8), "times n f h"), (InvalidLetter("c"), "alike n f c a"),
                (InvalidLetter("c"), "alike n f a c"), (InvalidLetter("a"), "alike n f a a"), (InvalidLetter("z"), "cut n f z 1"),
                (InvalidNumber(Ratio(-1)), "go -1"), (InvalidNumber(Ratio(2)), "go 2"), (InvalidNumber(Ratio(5, 2)), "go 5/2"),
                (InvalidWay("c"), "claim n crested f c"), (InvalidWay("z"), "claim n one f z"),
                (InvalidClaim(("one", None)), "claim n one f -"), (InvalidClaim(("sunk", None)), "claim n sunk f a"),
                (InvalidClaim(("even", None)), "claim n even x -"), (InvalidClaim(("dips", None)), "claim n dips f aaab"),
                (InvalidClaim(("dips", None)), "claim n dips f aaaaa"), (NotQuadric(), "signs f"), (NotQuadric(), "signs e"),
                (InvalidLot(""), "reach f -"), (InvalidLot("ac"), "reach f ac"), (InvalidLot("ac"), "chance f ac"),
                (NotLots(), "chance f a"), (NotLots(), "chance f -"), (NotLots(), "chance e abc")):
            self.fails_alike(desk, error, command)
        self.same([desk["f"], desk["x"]], [f, x])
        # of what is left with two letters and degree 1 or more there is a row, of what is left of degree 2 a table
        self.same(desk.do_all("claim r even f aaa", "claim t sunk f ab"), ["r true", "t false"])

    def test_go_to_a_weight_of_nought(self):
        desk = desk_of("pace a -1", "pace b 1")
        self.fails(InvalidNumber(Ratio(1)), desk.do, "go 1")
        self.fails(InvalidNumber(Ratio(-1)), desk.do, "go -1")
        self.same([desk.do("go 999998/999999"), desk.weight("a"), desk.weight("b")],
                  ["-", Ratio(1, 999999), Ratio(1999997, 999999)])

    def test_entries_and_mates(self):
        """300 products: 210 of seven letters, 90 more with the eighth; and claims of more than 1,000 mates."""
        desk = desk_of("blend p abcdefgh", *[f"put p {letter} 1" for letter in "abcdefg"], "times q p p", "times r q q")
        self.same([len(desk["q"]), len(desk["r"])], [28, 210])
        more = ["".join(letter * count for letter, count in zip("abcdefgh", counts)) for counts in all_counts(8, 4)
                if counts[7]][:91]
        desk.do_all(*[f"put r {product} 2" for product in more[:90]])
        self.same([len(desk["r"]), desk["r"].amount([0] * 7 + [4])], [300, Ratio(2)])
        self.fails_alike(desk, TooMany("entries", 300), f"put r {more[90]} 1")
        self.same(desk.do(f"put r {more[89]} 1/2"), "-")
        self.fails_alike(desk, TooMany("entries", 300), "times s p r")
        desk.do_all("blend t abcdefgh", f"put t {more[90]} 1")
        self.fails_alike(desk, TooMany("entries", 300), "sum s r t")
        self.same(desk.do("claim e exchanges p -"), "e true")
        for word in ("exchanges", "stuck"):
            self.fails_alike(desk, InvalidClaim((word, desk["q"])), f"claim m {word} q -")

    def test_parameters(self):
        desk = desk_of(*GAP, "claim k crested f -")
        for value in ODD_VALUES + ["b1", "k", "ff", ["f"]]:
            self.fails(UnknownName(value), lambda name: desk[name], value)
        for value in ODD_VALUES + ["f", "kk", ["k"]]:
            for call in (desk.claim_of, desk.fits):
                self.fails(UnknownLabel(value), call, value)
                self.fails(UnknownLabel(value), call, label=value)
            self.fails(UnknownLabel(value), desk.attach, value, None)
            self.fails(UnknownLabel(value), desk.attach, paper=[], label=value)
        for value in [value for value in ODD_VALUES if value != "a"] + ["A", "1", "-", ["a"]]:
            for call in (desk.weight, desk.pace):
                self.fails(InvalidLetter(value), call, value)
                self.fails(InvalidLetter(value), call, letter=value)


class AllTest(Case):
    def test_do_all(self):
        desk = Desk()
        self.same(desk.do_all(*GAP, "worth f", "undo", "worth f"), ["-", "-", "-", "2", GAP[2], "1"])
        ahead = all_of(desk)
        for commands, position, error in (
                (["redo", "drop f", "drop f"], 2, UnknownName), ([None], 0, InvalidCommand),
                (["undo", "undo", "undo"], 2, NothingToUndo), (["weigh a 3", "go 1", "redo"], 2, NothingToRedo),
                (["names", "blend g a", "claim l one g -", "names"], 2, InvalidClaim)):
            for call in (desk.do_all, desk.attempt):
                with self.assertRaises(CommandFailed) as caught:
                    call(*commands)
                self.same(caught.exception.position, position)
                self.assertIs(type(caught.exception.__cause__), error)
                self.same(all_of(desk), ahead)
        # what was taken back can still be done again
        self.same(desk.do("redo"), GAP[2])

    def test_attempts(self):
        desk = desk_of(*GAP, "claim k crested f -", "undo")
        ahead = all_of(desk)
        self.same(desk.attempt("put f aabb 4", "crested f", "drop f", "names", "undo", "undo"),
                  ["-", "yes", "-", "-", "drop f", "put f aabb 4"])
        self.same([desk.attempt(), desk.attempt("redo", "state k")], [[], ["claim k crested f -", "false"]])
        self.same(all_of(desk), ahead)
        self.same(desk.do("redo"), "claim k crested f -")

    def test_trials(self):
        desk = desk_of(*GAP, "claim k crested f -", "weigh a 2", "undo")
        ahead = all_of(desk)
        with Trial(desk) as held:
            self.assertIs(held, desk)
            desk.do_all("put f aabb 9", "drop f", "forget k", "weigh b 7")
            self.assertNotEqual(all_of(desk), ahead)
        self.same(all_of(desk), ahead)
        with Trial(desk=desk):
            self.same(desk.do("redo"), "weigh a 2")
            with Trial(desk):
                desk.do("undo")
                desk.attach("k", ("ab", [1, 1], [1, -1]))
                self.same(desk.fits("k"), True)
            self.same([desk.weight("a"), desk.fits("k")], [Ratio(2), False])
        self.same(all_of(desk), ahead)
        self.same(desk.do("redo"), "weigh a 2")

    def test_a_trial_that_an_error_leaves(self):
        desk = desk_of(*GAP)
        ahead = all_of(desk)
        trial = Trial(desk)
        for error in (KeyError("x"), UnknownName("x"), TypeError("y")):
            with self.assertRaises(type(error)) as caught:
                with trial as held:
                    held.do("drop f")
                    raise error
            self.assertIs(caught.exception, error)
            self.same(all_of(desk), ahead)
        with self.assertRaises(UnknownName):
            with trial:
                desk.do_all("weigh a 3")
                desk.do("drop g")
        self.same(all_of(desk), ahead)

    def test_a_trial_ahead_of_whose_block_the_desk_goes_on(self):
        desk = desk_of(*GAP)
        trial = Trial(desk)
        desk.do("weigh a 3")
        with trial:
            desk.do("weigh a 4")
        self.same([desk.weight("a"), desk.lines()], [Ratio(3), GAP + ["weigh a 3"]])
        desk.do("weigh a 5")
        with trial:
            desk.do("undo")
        self.same(desk.weight("a"), Ratio(5))

    def test_tried(self):
        desk = desk_of(*GAP)
        ahead = all_of(desk)
        self.same(tried(desk, lambda held: held.do_all("put f aabb 9", "crested f")), ["-", "yes"])
        self.same(tried(action=len, desk=desk), 3)
        self.assertIs(tried(desk, lambda held: held), desk)
        self.assertIs(tried(desk, lambda held: held.do("drop f") and None), None)
        with self.assertRaises(ZeroDivisionError):
            tried(desk, lambda held: held.do("drop f") and 1 // 0)
        self.same(all_of(desk), ahead)

    def test_copies(self):
        desk = desk_of("blend f ab", "put f ab 1", "claim k whole f -", "weigh a 2", "undo")
        desk.attach("k", [("a", "b", [1, 1])])
        ahead = all_of(desk)
        other = desk.copy()
        self.assertIs(type(other), Desk)
        self.same(all_of(other), ahead)
        self.same(other.do("redo"), "weigh a 2")
        other.do_all("put f aa 3", "forget k", "blend g a")
        self.same(all_of(desk), ahead)
        self.same([desk.do("redo"), desk.fits("k"), desk.names], ["weigh a 2", True, ["f"]])
        self.same([other.do("undo"), other.names], ["blend g a", ["f"]])
        self.same(desk.lines()[-1], "weigh a 2")

    def test_again(self):
        desk = desk_of(*GAP, "claim k crested f -", "put f aabb 3", "undo", "weigh a 2")
        again = Desk.again(desk.lines())
        self.same(all_of(again), all_of(desk))
        self.fails(NothingToRedo(), again.do, "redo")
        self.same([len(Desk.again([])), len(Desk.again(())), Desk.again(lines=tuple(GAP)).names], [0, 0, ["f"]])
        for value in [value for value in ODD_VALUES if not isinstance(value, (list, tuple))] + ["blend f a"]:
            self.fails(InvalidLines(None), Desk.again, value)
            self.fails(InvalidLines(None), Desk.again, lines=value)
        for lines, position in ((["undo"], 0), (["drop f", "names"], 1), (["blend f a", None, "x"], 1), ([True], 0),
                                (GAP + ["state k"], 3), ([["blend f a"]], 0), ((1, 2, 3), 0), ([""], 0)):
            self.fails(InvalidLines(position), Desk.again, lines)
        for lines, position, error in ((["drop f"], 0, UnknownName), (GAP + ["go 1", "blend f ab"], 4, NameTaken),
                                       (["blend f a", "put f bb 1"], 1, InvalidLetter)):
            with self.assertRaises(CommandFailed) as caught:
                Desk.again(lines)
            self.same(caught.exception.position, position)
            self.assertIs(type(caught.exception.__cause__), error)


class PaperTest(Case):
    def test_papers_fit(self):
        desk = desk_of("blend f ab", "put f aa 1", "put f bb 1", "claim k crested f -")
        self.same([desk.fits("k"), desk.fits(label="k")], [False, False])
        dented = ("", [1, 1], [1, -1])
        self.same([desk.attach("k", dented), desk.fits("k")], [None, True])
        # it is kept for the contrary, and is none of that now; then it is one again
        self.same([desk.do("put f ab 2"), desk.fits("k"), desk.do("undo"), desk.fits("k")],
                  ["k true", False, "put f ab 2", True])
        self.same([desk.do("scale f 3"), desk.fits("k")], ["-", True])
        desk.do("put f ab 9")
        crested = paper_of(desk.claim_of("k"))
        self.same([desk.attach(paper=crested, label="k"), desk.fits("k")], [None, True])
        # there is another one in its place now
        self.same([desk.do("undo"), desk.fits("k"), desk.do("redo"), desk.fits("k")],
                  ["put f ab 9", False, "put f ab 9", True])
        self.same([desk.do("drop f"), desk.fits("k"), desk.claim_of("k")], ["k gone", False, None])
        self.same([desk.do("undo"), desk.fits("k")], ["drop f", True])

    def test_kept_while_the_label_is_not_noted(self):
        desk = desk_of("blend f ab", "put f ab 1", "copy g f", "claim k whole f -")
        desk.attach("k", [("a", "b", (1, 1))])
        desk.do("forget k")
        self.fails(UnknownLabel("k"), desk.fits, "k")
        self.same([desk.do("claim k whole f -"), desk.fits("k")], ["k true", True])
        # other words: of another blend, by another way, of another word, also if it would be a paper of these
        for line in ("claim k whole g -", "claim k apart f -", "claim k whole f a", "claim k crested f -"):
            desk.do_all("forget k", line)
            self.same(desk.fits("k"), False)
        self.same(desk.do_all("forget k", "claim k whole f -"), ["-", "k true"])
        self.same(desk.fits("k"), True)
        # the blend may be another one under its name
        self.same([desk.do_all("drop f", "sum f g g"), desk.fits("k")], [["k gone", "k true"], True])

    def test_all_kinds_of_papers(self):
        desk = desk_of("blend f ab", "put f aa 1", "put f bb 1", *[f"claim {word[:8]} {word} f -" for word in WORDS])
        for change in ("weigh a 1", "put f ab 2", "put f ab 3", "take f aa", "take f ab"):
            desk.do(change)
            for label in LABELS:
                claim = desk.claim_of(label)
                for told in (claim, contrary(claim)):
                    paper = paper_of(told)
                    if paper is None:
                        continue
                    ahead = exact(paper)
                    desk.attach(label, paper)
                    self.same([desk.fits(label), exact(paper)], [True, ahead])

    def test_copied(self):
        """What becomes of a paper elsewhere has no effect on the one that is kept."""
        desk = desk_of("blend f ab", "put f ab 1", "claim k crested f -", "claim w exchanges f -", "put f bb 1")
        for label in ("k", "w"):
            paper = paper_of(desk.claim_of(label))
            desk.attach(label, paper)
            if label == "k":
                paper[""][0][1][0] = None
            paper.clear()
            self.same(desk.fits(label), True)

    def test_wrong(self):
        desk = desk_of(*GAP, "claim k crested f -", "claim w whole f -", "claim g one f aa")
        ahead = all_of(desk)
        for value in ODD_VALUES:
            for label in ("k", "w", "g"):
                self.fails(InvalidPaper(value), desk.attach, label, value)
                self.fails(InvalidPaper(value), desk.attach, paper=value, label=label)
        right = ("ab", [Ratio(1), Ratio(1)], [Ratio(1), Ratio(-1)])
        for value in one_thing_changed(right):
            if not is_dent(desk["f"], value):
                self.fails(InvalidPaper(value), desk.attach, "k", value)
        self.same(all_of(desk), ahead)
        desk.attach("k", right)
        self.fails(InvalidPaper(None), desk.attach, "k", None)
        self.same(desk.fits("k"), True)
        # none is a paper while the claim is gone
        desk.do("drop f")
        self.fails(InvalidPaper(right), desk.attach, "k", right)
        self.same([desk.do("undo"), desk.fits("k")], ["drop f", True])
