"""Names, commands and deeds, by their words alone [95], [97], [98]."""

from itertools import product

from onecrest.commands import is_command, is_deed, is_name
from onecrest.ratios import Ratio
from plain import ODD_VALUES, Case, exact

WORDS = "crested dented whole apart exchanges stuck one more sound sunk even dips".split()
NAMES = ["f", "a1", "abcdefgh", "z9999999", "undo"]
NO_NAMES = ["", "1", "1a", "F", "aB", "abcdefghi", "a-b", "-", "a_b", "a.b"]
KINDS = {
    "name": (NAMES, NO_NAMES),
    "LETTERS": (["a", "az", "abcdefgh"], ["", "-", "ba", "aa", "A", "abcdefghi", "a1"]),
    "LETTER": (["a", "z"], ["", "-", "ab", "A", "1"]),
    "PRODUCT": (["-", "a", "aab", "zzzzzzzz", "abcdefgh"], ["", "ba", "aba", "aaaaaaaaa", "A", "a1", "a-", "--"]),
    "LOT": (["-", "a", "abz", "abcdefgh"], ["", "ba", "aa", "abb", "abcdefghi", "A", "--"]),
    "AMOUNT": (["3", "1/2", "999999", "999999/999998", "1/999999"],
               ["", "0", "-1", "-1/2", "1000000", "1000000/3", "1/1000000", "01", "2/4", "3/1", "+1", "1.5", "1/0", "-", "x"]),
    "NUMBER": (["0", "-1", "3/2", "-999999/5", "-999999", "1/999999"],
               ["", "-0", "00", "-01", "1000000", "-1000000", "-1/1000000", "2/4", "-2/2", "0/2", "1/-2", "--1", "x"]),
    "MANY": (["0", "1", "999999"], ["", "-1", "01", "00", "1000000", "1/2", "x", "-"]),
    "WORD": (WORDS, ["", "lets", "bars", "choice", "none", "Crested", "crest", "-"]),
}
for kind, other in (("NEW", "name"), ("ONE", "name"), ("OTHER", "name"), ("LABEL", "name"), ("SECOND", "LETTER"),
                    ("WAY", "PRODUCT")):
    KINDS[kind] = KINDS[other]
DEEDS = ["blend NEW LETTERS", "put ONE PRODUCT AMOUNT", "take ONE PRODUCT", "scale ONE AMOUNT", "copy NEW ONE",
         "left NEW ONE WAY", "sum NEW ONE OTHER", "times NEW ONE OTHER", "alike NEW ONE LETTER SECOND",
         "cut NEW ONE LETTER MANY", "drop ONE", "weigh LETTER AMOUNT", "pace LETTER NUMBER", "go NUMBER",
         "claim LABEL WORD ONE WAY", "forget LABEL"]
QUESTIONS = ["undo", "redo", "state LABEL", "states", "claimed LABEL", "names", "letters ONE", "products ONE",
             "weights ONE", "paces ONE", "worth ONE", "slope ONE", "bend ONE", "lean ONE", "swells ONE", "crested ONE",
             "fault ONE", "parts ONE", "pieces ONE", "signs ONE", "misfit ONE", "reach ONE LOT", "chance ONE LOT"]


def all_of(form):
    """Some commands of this form: each kind told in each of its ways."""
    word, *kinds = form.split(" ")
    for parts in product(*[KINDS[kind][0][:2] for kind in kinds]):
        yield " ".join([word, *parts])
    for at, kind in enumerate(kinds):
        for told in KINDS[kind][0]:
            yield " ".join([word, *[told if place == at else KINDS[other][0][0] for place, other in enumerate(kinds)]])


def none_of(form):
    """What is nearly of this form: one part told wrong, left out, put in; blanks too many."""
    word, *kinds = form.split(" ")
    parts = [KINDS[kind][0][0] for kind in kinds]
    for at, kind in enumerate(kinds):
        for told in KINDS[kind][1]:
            yield " ".join([word, *[told if place == at else part for place, part in enumerate(parts)]])
        yield " ".join([word, *parts[:at], *parts[at + 1:]])
    right = " ".join([word, *parts])
    yield from (right + " ", " " + right, right + " a", right + "\n", "\n" + right, right.replace(" ", "  "), right.upper(),
                word.title(), word + "x", "x" + right, right + " -") if kinds else (
        right + " ", " " + right, right + " a", right + "\n", right.upper(), right + "x")


class CommandsTest(Case):
    def test_document(self):
        self.same([is_command("put f aab 3/2"), is_command("put f aba 1"), is_command("claim x one f -"),
                   is_deed("states"), is_command("go -1/2")], [True, False, True, False, True])

    def test_names(self):
        right = [exact(value) for value in ODD_VALUES if isinstance(value, str) and value in ("a", "ab", "ba")]
        for value in ODD_VALUES:
            self.assertIs(is_name(value), exact(value) in right, value)
        for value in NAMES:
            self.assertIs(is_name(value=value), True)
        for value in NO_NAMES + ["a ", " a", "a b", "a\n", ["a"], ("a",), b"a", Ratio(1)]:
            self.assertIs(is_name(value), False, value)

    def test_commands(self):
        for form in DEEDS + QUESTIONS:
            for command in all_of(form):
                self.assertIs(is_command(command), True, command)
                self.assertIs(is_deed(command), form in DEEDS, command)
                self.assertIs(is_deed(value=command), is_deed(command))
                self.assertIs(is_command(value=command), True)

    def test_nearly_commands(self):
        for form in DEEDS + QUESTIONS:
            for command in none_of(form):
                self.assertIs(is_command(command), False, command)
                self.assertIs(is_deed(command), False, command)

    def test_other_kinds(self):
        for value in ODD_VALUES:
            self.assertIs(is_command(value), False)
            self.assertIs(is_deed(value), False)
        for value in ("blend", "put", " ", "attach f a", "lines", "copy", "again", "weight a", "trial", "word f", "one",
                      ["names"], ("undo",), b"undo", "undo redo", "names\nnames", "sum f g", "sum f g h i"):
            self.assertIs(is_command(value), False, value)
            self.assertIs(is_deed(value), False, value)
