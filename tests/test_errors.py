"""The errors: their families, parameters and attributes."""

import unittest

from anyofthese import errors
from tests.samples import Case

FAMILIES = {
    "AnyError": ValueError,
    "MissingError": LookupError,
    "StateError": RuntimeError,
    "LimitError": ArithmeticError,
}
ERRORS = {
    "AnyError": {
        "InvalidName": ["value"],
        "InvalidShift": ["value"],
        "InvalidShifts": ["name"],
        "InvalidTimes": ["value"],
        "InvalidMoments": ["position"],
        "InvalidRules": ["position"],
        "InvalidPosition": ["value"],
        "InvalidPositions": ["position"],
        "InvalidNames": ["value"],
        "InvalidCount": ["value"],
        "InvalidChoice": ["position"],
        "InvalidCeilings": ["value"],
        "InvalidTerms": ["position"],
        "InvalidPace": ["value"],
        "InvalidText": ["line"],
        "InvalidClaim": ["value"],
        "InvalidCommand": ["value"],
    },
    "MissingError": {"UnknownMoment": ["value"]},
    "StateError": {
        "LastOne": ["value"],
        "NameTaken": ["value"],
        "OtherMoments": ["one", "other"],
        "NoRun": [],
        "NotKept": ["position"],
        "BackNeeded": ["position"],
        "NothingToUndo": [],
        "CommandFailed": ["position"],
    },
    "LimitError": {"TooMany": ["what", "limit"]},
}
VALUES = [None, True, False, 0, 5, -7, 10 ** 60, "", "ann", b"x", [1, [2]], (), {"a": []}, {1, 2}, object(), int, len]
ROWS = [
    (family, name, parameters) for family, members in ERRORS.items() for name, parameters in members.items()
]


class FamilyTest(unittest.TestCase):
    def test_families_are_direct_subclasses_of_pythons_errors(self):
        for name, base in FAMILIES.items():
            with self.subTest(name):
                self.assertEqual(getattr(errors, name).__bases__, (base,))

    def test_each_error_is_a_direct_subclass_of_its_family_alone(self):
        for family, name, _ in ROWS:
            with self.subTest(name):
                self.assertEqual(getattr(errors, name).__bases__, (getattr(errors, family),))

    def test_all_are_defined_in_the_file_of_errors(self):
        for name in [*FAMILIES, *[name for _, name, _ in ROWS]]:
            with self.subTest(name):
                self.assertEqual(getattr(errors, name).__module__, "anyofthese.errors")
                self.assertEqual(getattr(errors, name).__name__, name)

    def test_errors_are_caught_by_family(self):
        with self.assertRaises(ValueError):
            raise errors.InvalidName("A")
        with self.assertRaises(LookupError):
            raise errors.UnknownMoment("a")
        with self.assertRaises(RuntimeError):
            raise errors.NoRun()
        with self.assertRaises(ArithmeticError):
            raise errors.TooMany("rules", 100)


class AttributeTest(Case):
    def test_made_by_position_with_any_values(self):
        for _, name, parameters in ROWS:
            for shift, value in enumerate(VALUES):
                with self.subTest(name, value=value):
                    passed = [VALUES[(shift + place) % len(VALUES)] for place in range(len(parameters))]
                    error = getattr(errors, name)(*passed)
                    self.assertEqual(list(vars(error)), parameters)
                    for parameter, given in zip(parameters, passed):
                        self.assertIs(getattr(error, parameter), given)

    def test_made_by_name_in_any_sequence_with_any_values(self):
        for _, name, parameters in ROWS:
            for shift, value in enumerate(VALUES):
                with self.subTest(name, value=value):
                    places = list(enumerate(parameters))[::-1]
                    named = {parameter: VALUES[(shift + place) % len(VALUES)] for place, parameter in places}
                    error = getattr(errors, name)(**named)
                    for parameter in parameters:
                        self.assertIs(getattr(error, parameter), named[parameter])

    def test_no_fewer_and_no_more_values_are_taken(self):
        for _, name, parameters in ROWS:
            with self.subTest(name):
                with self.assertRaises(TypeError):
                    getattr(errors, name)(*parameters, "more")
                with self.assertRaises(TypeError):
                    getattr(errors, name)(**{parameter: 1 for parameter in parameters}, more=1)
                if parameters:
                    with self.assertRaises(TypeError):
                        getattr(errors, name)(*parameters[1:])

    def test_those_that_take_nothing_have_no_attributes(self):
        self.assertEqual(vars(errors.NoRun()), {})
        self.assertEqual(vars(errors.NothingToUndo()), {})
