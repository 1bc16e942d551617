"""A desk that keeps blends under names and claims under labels, and does and takes back deeds."""

from onecrest.answers import answer
from onecrest.basics import fresh, is_list, is_small_letter
from onecrest.claims import contrary, is_paper_of
from onecrest.commands import is_deed, is_name, kinds_of, parts_of
from onecrest.contents import Held, changed_states, claim_told, no_contents
from onecrest.deeds import contents_behind
from onecrest.errors import CommandFailed, CrestError, InvalidCommand, InvalidLetter, InvalidLines, InvalidPaper
from onecrest.errors import LabelTaken, LimitError, MissingError, NameTaken, NothingToRedo, NothingToUndo, StateError
from onecrest.errors import TooMany, UnknownLabel, UnknownName

MOST_BLENDS = 8
MOST_LABELS = 12
MOST_DEEDS = 300


class Desk:
    """Blends, weights, paces, claims and papers; all of them in one Held, which a deed puts another one for."""

    def __init__(self):
        self._held = Held(no_contents(), [], [], {})

    @property
    def names(self):
        return sorted(self._held.contents.blends)

    @property
    def labels(self):
        return sorted(self._held.contents.claims)

    def __len__(self):
        return len(self._held.done)

    def __getitem__(self, name):
        if not is_name(name) or name not in self._held.contents.blends:
            raise UnknownName(name)
        return self._held.contents.blends[name]

    def __iter__(self):
        raise TypeError("a desk is not iterated over")

    def __contains__(self, value):
        return is_name(value) and value in self._held.contents.blends

    def weight(self, letter):
        """The weight of a small letter."""
        _check_small_letter(letter)
        return self._held.contents.weights[letter]

    def pace(self, letter):
        """The pace of a small letter."""
        _check_small_letter(letter)
        return self._held.contents.paces[letter]

    def claim_of(self, label):
        """The claim under a label, of the blend as it is now; None while its state is gone."""
        word, name, way = self._noted(label)
        if self._held.contents.states[label] == "gone":
            return None
        return claim_told(word, self._held.contents.blends[name], way)

    def do(self, command):
        """The answer to a command, which is done if it is a deed."""
        parts = parts_of(command)
        if parts is None:
            raise InvalidCommand(command)
        word = parts[0]
        contents = self._held.contents
        _check_kept(contents, kinds_of(word), parts[1:])
        if is_deed(command):
            return self._done(command, contents_behind(contents, word, parts[1:]))
        if word == "undo":
            return self._taken_back()
        if word == "redo":
            return self._done_again()
        return answer(contents, word, parts[1:])

    def __call__(self, command):
        return self.do(command)

    def do_all(self, *commands):
        """The answers to the commands; none has an effect if one fails."""
        ahead = self._held
        answers = []
        for position, command in enumerate(commands):
            try:
                answers.append(self.do(command))
            except (CrestError, MissingError, StateError, LimitError) as error:
                self._held = ahead
                raise CommandFailed(position) from error
        return answers

    def attempt(self, *commands):
        """As do_all, but all is as before."""
        with Trial(self):
            return self.do_all(*commands)

    def attach(self, label, paper):
        """Keeps a paper of the label's claim, or of its contrary, with the label."""
        noted = self._noted(label)
        claim = self.claim_of(label)
        word = None if claim is None else _word_shown(claim, paper)
        if word is None:
            raise InvalidPaper(paper)
        held = self._held
        papers = dict(held.papers)
        papers[label] = (noted, word, fresh(paper))
        self._held = Held(held.contents, held.done, held.undone, papers)

    def fits(self, label):
        """Whether the paper that is kept with the label is still one, for the label's words."""
        noted = self._noted(label)
        claim = self.claim_of(label)
        if claim is None or label not in self._held.papers:
            return False
        words, word, paper = self._held.papers[label]
        return words == noted and is_paper_of((word, claim[1]), paper)

    def lines(self):
        """The lines of the deeds that are not taken back."""
        return [line for line, _ in self._held.done]

    def copy(self):
        """A desk with the same of all, that goes on by itself."""
        desk = Desk()
        desk._held = self._held
        return desk

    @classmethod
    def again(cls, lines):
        """A desk that has done these deeds."""
        if not is_list(lines):
            raise InvalidLines(None)
        for position, line in enumerate(lines):
            if not is_deed(line):
                raise InvalidLines(position)
        desk = cls()
        desk.do_all(*lines)
        return desk

    def _noted(self, label):
        """What is noted under a label: the word, the name and the way."""
        if not is_name(label) or label not in self._held.contents.claims:
            raise UnknownLabel(label)
        return self._held.contents.claims[label]

    def _done(self, line, contents):
        """The answer to a deed that makes these contents, which are kept from now on."""
        held = self._held
        if len(contents.blends) > MOST_BLENDS:
            raise TooMany("blends", MOST_BLENDS)
        if len(contents.claims) > MOST_LABELS:
            raise TooMany("labels", MOST_LABELS)
        if len(held.done) == MOST_DEEDS:
            raise TooMany("deeds", MOST_DEEDS)
        self._held = Held(contents, held.done + [(line, held.contents)], [], held.papers)
        return changed_states(held.contents, contents)

    def _taken_back(self):
        """The line of the last deed, which is taken back."""
        held = self._held
        if len(held.done) == 0:
            raise NothingToUndo()
        line, ahead = held.done[-1]
        self._held = Held(ahead, held.done[:-1], held.undone + [(line, held.contents)], held.papers)
        return line

    def _done_again(self):
        """The line of the last deed that was taken back, which is done again."""
        held = self._held
        if len(held.undone) == 0:
            raise NothingToRedo()
        line, behind = held.undone[-1]
        self._held = Held(behind, held.done + [(line, held.contents)], held.undone[:-1], held.papers)
        return line


class Trial:
    """A block behind which all of a desk is as it was ahead of it."""

    def __init__(self, desk):
        self._desk = desk
        self._held = None

    def __enter__(self):
        self._held = self._desk._held
        return self._desk

    def __exit__(self, kind, value, trace):
        desk = self._desk
        desk._held = self._held


def tried(desk, action):
    """What a function returns for a desk, which is as it was then."""
    with Trial(desk) as held:
        return action(held)


def _check_small_letter(letter):
    if not is_small_letter(letter):
        raise InvalidLetter(letter)


def _check_kept(contents, kinds, parts):
    """Asks that names and labels are kept or not, as a command wants them: first what must not be."""
    for kind, part in zip(kinds, parts):
        if kind == "new" and part in contents.blends:
            raise NameTaken(part)
        if kind == "free" and part in contents.claims:
            raise LabelTaken(part)
    for kind, part in zip(kinds, parts):
        if kind == "name" and part not in contents.blends:
            raise UnknownName(part)
        if kind == "label" and part not in contents.claims:
            raise UnknownLabel(part)


def _word_shown(claim, paper):
    """The word of a claim, or of its contrary, of which any value is a paper; None if it is none of both."""
    for told in (claim, contrary(claim)):
        if is_paper_of(told, paper):
            return told[0]
    return None
