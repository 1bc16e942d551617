"""The errors of the package.

Each one keeps what it was made with, and looks at nothing of it: it can be made with any values.
"""


class CrestError(ValueError):
    """A value that is passed is not valid."""


class InvalidBlend(CrestError):
    def __init__(self, value):
        self.value = value


class InvalidCounts(CrestError):
    def __init__(self, value):
        self.value = value


class InvalidDirection(CrestError):
    def __init__(self, value):
        self.value = value


class InvalidLetter(CrestError):
    def __init__(self, value):
        self.value = value


class InvalidMany(CrestError):
    def __init__(self, value):
        self.value = value


class InvalidNumber(CrestError):
    def __init__(self, value):
        self.value = value


class InvalidShare(CrestError):
    def __init__(self, value):
        self.value = value


class InvalidTable(CrestError):
    def __init__(self, value):
        self.value = value


class InvalidWay(CrestError):
    def __init__(self, value):
        self.value = value


class InvalidWeights(CrestError):
    def __init__(self, value):
        self.value = value


class DividedByZero(CrestError):
    def __init__(self):
        pass


class InvalidBounds(CrestError):
    def __init__(self, value):
        self.value = value


class InvalidBoxes(CrestError):
    def __init__(self, value):
        self.value = value


class InvalidClaim(CrestError):
    def __init__(self, value):
        self.value = value


class InvalidCommand(CrestError):
    def __init__(self, value):
        self.value = value


class InvalidEntries(CrestError):
    def __init__(self, position):
        self.position = position


class InvalidLeads(CrestError):
    def __init__(self, value):
        self.value = value


class InvalidLetters(CrestError):
    def __init__(self, value):
        self.value = value


class InvalidLines(CrestError):
    def __init__(self, position):
        self.position = position


class InvalidLot(CrestError):
    def __init__(self, value):
        self.value = value


class InvalidLots(CrestError):
    def __init__(self, position):
        self.position = position


class InvalidNames(CrestError):
    def __init__(self, value):
        self.value = value


class InvalidNet(CrestError):
    def __init__(self, value):
        self.value = value


class InvalidNumbers(CrestError):
    def __init__(self, value):
        self.value = value


class InvalidOperator(CrestError):
    def __init__(self, value):
        self.value = value


class InvalidPaper(CrestError):
    def __init__(self, value):
        self.value = value


class InvalidPlaces(CrestError):
    def __init__(self, value):
        self.value = value


class InvalidPosition(CrestError):
    def __init__(self, value):
        self.value = value


class InvalidRow(CrestError):
    def __init__(self, value):
        self.value = value


class InvalidRows(CrestError):
    def __init__(self, value):
        self.value = value


class InvalidSpan(CrestError):
    def __init__(self, low, high):
        self.low = low
        self.high = high


class InvalidText(CrestError):
    def __init__(self, line):
        self.line = line


class InvalidThing(CrestError):
    def __init__(self, value):
        self.value = value


class InvalidThings(CrestError):
    def __init__(self, value):
        self.value = value


class InvalidTies(CrestError):
    def __init__(self, position):
        self.position = position


class InvalidVectors(CrestError):
    def __init__(self, value):
        self.value = value


class MissingError(LookupError):
    """What is asked for is not there."""


class IdleThing(MissingError):
    def __init__(self, thing):
        self.thing = thing


class UnknownLabel(MissingError):
    def __init__(self, value):
        self.value = value


class UnknownName(MissingError):
    def __init__(self, value):
        self.value = value


class StateError(RuntimeError):
    """Valid values do not go together, or not now."""


class UnlikeBlends(StateError):
    def __init__(self):
        pass


class BeyondBounds(StateError):
    def __init__(self):
        pass


class CommandFailed(StateError):
    def __init__(self, position):
        self.position = position


class HasSquares(StateError):
    def __init__(self):
        pass


class LabelTaken(StateError):
    def __init__(self, label):
        self.label = label


class NameTaken(StateError):
    def __init__(self, name):
        self.name = name


class NoEdge(StateError):
    def __init__(self):
        pass


class NoTies(StateError):
    def __init__(self):
        pass


class NotAbove(StateError):
    def __init__(self):
        pass


class NotEven(StateError):
    def __init__(self):
        pass


class NotHouse(StateError):
    def __init__(self):
        pass


class NotLeast(StateError):
    def __init__(self):
        pass


class NotLots(StateError):
    def __init__(self):
        pass


class NotQuadric(StateError):
    def __init__(self):
        pass


class NothingToRedo(StateError):
    def __init__(self):
        pass


class NothingToUndo(StateError):
    def __init__(self):
        pass


class UnlikeDegree(StateError):
    def __init__(self):
        pass


class LimitError(ArithmeticError):
    """An answer would go beyond a limit."""


class TooMany(LimitError):
    def __init__(self, what, limit):
        self.what = what
        self.limit = limit
