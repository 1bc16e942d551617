"""What a desk keeps at one time. What is told here never changes: a deed makes a new one."""

from onecrest.claims import truth_of
from onecrest.quadrics import table_of
from onecrest.ratios import Ratio
from onecrest.symbols import ALPHABET
from onecrest.taken import is_way, taken

TABLE_WORDS = ("one", "more", "sound", "sunk")
ROW_WORDS = ("even", "dips")


class Contents:
    """Blends by names, weights and paces by letters; claims (word, name, way) and their states by labels."""

    def __init__(self, blends, weights, paces, claims, states):
        self.blends = blends
        self.weights = weights
        self.paces = paces
        self.claims = claims
        self.states = states


class Held:
    """Contents, the deeds done and taken back, each with the contents on its other side, and papers by labels."""

    def __init__(self, contents, done, undone, papers):
        self.contents = contents
        self.done = done
        self.undone = undone
        self.papers = papers


def no_contents():
    """What a new desk keeps."""
    weights = {letter: Ratio(1) for letter in ALPHABET}
    paces = {letter: Ratio(0) for letter in ALPHABET}
    return Contents({}, weights, paces, {}, {})


def with_blends(contents, blends, name):
    """The contents with other blends, of which that of one name is not what it was."""
    states = dict(contents.states)
    for label in contents.claims:
        if contents.claims[label][1] == name:
            states[label] = _state(blends, contents.claims[label])
    return Contents(blends, contents.weights, contents.paces, contents.claims, states)


def with_weights(contents, weights, paces):
    """The contents with other weights and paces."""
    return Contents(contents.blends, weights, paces, contents.claims, contents.states)


def with_claim(contents, label, noted):
    """The contents with a claim (word, name, way) under a label."""
    claims, states = dict(contents.claims), dict(contents.states)
    claims[label] = noted
    states[label] = _state(contents.blends, noted)
    return Contents(contents.blends, contents.weights, contents.paces, claims, states)


def without_claim(contents, label):
    """The contents without a label."""
    claims = {other: contents.claims[other] for other in contents.claims if other != label}
    states = {other: contents.states[other] for other in claims}
    return Contents(contents.blends, contents.weights, contents.paces, claims, states)


def changed_states(ahead, contents):
    """The states of all labels whose state is another one than ahead."""
    states = contents.states
    return states_text(contents, [label for label in states if ahead.states.get(label) != states[label]])


def states_text(contents, labels):
    """The labels, sorted, with their states; - without any."""
    return ", ".join([f"{label} {contents.states[label]}" for label in sorted(labels)]) or "-"


def claim_told(word, blend, way):
    """The claim of a word about what a blend leaves; None is in the place of a table or a row that there is none."""
    left = taken(blend, way)
    if word in TABLE_WORDS:
        return word, table_of(left) if left.degree == 2 else None
    return word, _row_of(left) if word in ROW_WORDS else left


def _state(blends, noted):
    """Whether a claim is true of the blends, or gone."""
    word, name, way = noted
    if name not in blends or not is_way(blends[name], way):
        return "gone"
    truth = truth_of(claim_told(word, blends[name], way))
    if truth is None:
        return "gone"
    return "true" if truth else "false"


def _row_of(blend):
    """The amounts of a blend of two letters, by how often it has the first one; None if it is no such blend."""
    if len(blend.letters) != 2 or blend.is_nought or blend.degree == 0:
        return None
    return [blend.amount((k, blend.degree - k)) for k in range(blend.degree + 1)]
