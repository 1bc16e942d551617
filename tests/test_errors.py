"""The errors: their classes, bases, attributes and constructors [2]."""

import inspect

from onecrest import errors
from plain import ODD_VALUES, Case

GROUPS = {
    "CrestError": (ValueError, {
        "value": "InvalidBlend InvalidCounts InvalidDirection InvalidLetter InvalidMany InvalidNumber InvalidShare "
                 "InvalidTable InvalidWay InvalidWeights InvalidBounds InvalidBoxes InvalidClaim InvalidCommand "
                 "InvalidLeads InvalidLetters InvalidLot InvalidNames InvalidNet InvalidNumbers InvalidOperator "
                 "InvalidPaper InvalidPlaces InvalidPosition InvalidRow InvalidRows InvalidThing InvalidThings "
                 "InvalidVectors",
        "position": "InvalidEntries InvalidLines InvalidLots InvalidTies",
        "low high": "InvalidSpan",
        "line": "InvalidText",
        "": "DividedByZero"}),
    "MissingError": (LookupError, {"thing": "IdleThing", "value": "UnknownLabel UnknownName"}),
    "StateError": (RuntimeError, {
        "position": "CommandFailed",
        "label": "LabelTaken",
        "name": "NameTaken",
        "": "UnlikeBlends BeyondBounds HasSquares NoEdge NoTies NotAbove NotEven NotHouse NotLeast NotLots NotQuadric "
            "NothingToRedo NothingToUndo UnlikeDegree"}),
    "LimitError": (ArithmeticError, {"what limit": "TooMany"}),
}


def listed():
    """Each error of the document: its class, the class in front of it, its attributes."""
    for front, (_, classes) in GROUPS.items():
        for attributes, names in classes.items():
            for name in names.split():
                yield getattr(errors, name), getattr(errors, front), attributes.split()


class ErrorsTest(Case):
    def test_direct_subclasses(self):
        for front, (base, _) in GROUPS.items():
            self.assertEqual(getattr(errors, front).__bases__, (base,))
        for error, front, _ in listed():
            self.assertEqual(error.__bases__, (front,))

    def test_every_class_and_no_other(self):
        told = {name for name, _ in inspect.getmembers(errors, inspect.isclass)}
        wanted = {error.__name__ for error, _, _ in listed()} | set(GROUPS)
        self.assertEqual(told, wanted)
        self.assertEqual(len(wanted), 61)

    def test_parameters_are_attributes(self):
        for error, _, attributes in listed():
            self.assertEqual(list(inspect.signature(error).parameters), attributes, error)

    def test_any_values(self):
        values = [*ODD_VALUES, 10 ** 5000, "x" * 5000, [[[]]]]
        for error, _, attributes in listed():
            for value in values:
                parts = [value] * len(attributes)
                by_place, by_name = error(*parts), error(**dict(zip(attributes, parts)))
                for made in (by_place, by_name):
                    self.assertEqual(sorted(vars(made)), sorted(attributes))
                    for attribute in attributes:
                        self.assertIs(getattr(made, attribute), value)

    def test_two_parameters_in_their_sequence(self):
        self.assertEqual(vars(errors.InvalidSpan(1, 2)), {"low": 1, "high": 2})
        self.assertEqual(vars(errors.TooMany("ways", 300)), {"what": "ways", "limit": 300})

    def test_raised_and_caught_by_groups(self):
        for error, front, attributes in listed():
            with self.assertRaises(front):
                raise error(*[1] * len(attributes))
