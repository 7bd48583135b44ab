"""The interface: each class with its own methods, each function, and their parameters, in the file that lists them."""

import importlib
import inspect
import unittest

CLASSES = {
    ("terms", "Term"): [
        "__init__", "moment", "shift", "__call__", "__add__", "__radd__", "__sub__", "__or__", "__eq__", "__str__",
        "__repr__",
    ],
    ("earliest", "Earliest"): [
        "__init__", "of", "moments", "shifts", "__getitem__", "__contains__", "__len__", "__call__", "first", "__add__",
        "__radd__", "__sub__", "__or__", "is_never_later", "without", "put_in", "__eq__", "__str__", "__repr__",
    ],
    ("rules", "Rule"): [
        "__init__", "moment", "earliest", "moments", "is_always", "is_never", "kept_by", "slack", "contrary", "__add__",
        "__radd__", "__sub__", "__eq__", "__str__", "__repr__",
    ],
    ("books", "Book"): [
        "__init__", "MOST_MOMENTS", "MOST_RULES", "moments", "rules", "__getitem__", "__len__", "__contains__",
        "rules_of", "__and__", "with_rules", "without", "renamed", "__eq__", "__repr__",
    ],
    ("drafts", "Draft"): [
        "__init__", "__getitem__", "__setitem__", "__iadd__", "drop", "put", "add", "book", "take", "__len__",
    ],
    ("runs", "Run"): [
        "__init__", "of", "moments", "times", "__getitem__", "__contains__", "__len__", "__and__", "__or__",
        "is_at_most", "__add__", "__radd__", "__sub__", "with_time", "only", "gap", "__eq__", "__repr__",
    ],
    ("plans", "RoundRule"): ["__init__", "moment", "terms", "moments", "__eq__", "__str__", "__repr__"],
    ("plans", "Plan"): [
        "__init__", "moments", "rules", "__getitem__", "__len__", "__contains__", "__eq__", "__repr__",
    ],
    ("desk", "Desk"): [
        "__init__", "do", "do_all", "attempt", "tried_by", "trial", "book", "take", "undoable",
    ],
}
PARAMETERS = {
    ("terms", "Term"): "moment, shift=0",
    ("terms", "Term.__call__"): "self, times",
    ("earliest", "Earliest"): "shifts",
    ("earliest", "Earliest.of"): "**shifts",
    ("earliest", "Earliest.shifts"): "self",
    ("earliest", "Earliest.__call__"): "self, times",
    ("earliest", "Earliest.first"): "self, times",
    ("earliest", "Earliest.is_never_later"): "self, other",
    ("earliest", "Earliest.without"): "self, moment",
    ("earliest", "Earliest.put_in"): "self, moment, earliest",
    ("rules", "Rule"): "moment, earliest",
    ("rules", "Rule.kept_by"): "self, times",
    ("rules", "Rule.slack"): "self, times",
    ("rules", "Rule.contrary"): "self",
    ("books", "Book"): "moments, rules=()",
    ("books", "Book.rules"): "self",
    ("books", "Book.rules_of"): "self, moment",
    ("books", "Book.with_rules"): "self, *rules",
    ("books", "Book.without"): "self, *positions",
    ("books", "Book.renamed"): "self, names",
    ("books", "first_broken"): "book, times",
    ("books", "is_run"): "book, value",
    ("drafts", "Draft"): "book",
    ("drafts", "Draft.drop"): "self, position",
    ("drafts", "Draft.put"): "self, position, rule",
    ("drafts", "Draft.add"): "self, rule",
    ("drafts", "Draft.take"): "self, other",
    ("runs", "Run"): "times",
    ("runs", "Run.of"): "**times",
    ("runs", "Run.times"): "self",
    ("runs", "Run.is_at_most"): "self, other",
    ("runs", "Run.with_time"): "self, moment, time",
    ("runs", "Run.only"): "self, moments",
    ("runs", "Run.gap"): "self, a, b",
    ("kept", "keeps"): "book, run",
    ("kept", "slacks"): "book, run",
    ("kept", "ways"): "book, run",
    ("kept", "keeps_choice"): "book, run, choice",
    ("kept", "plain"): "book, choice",
    ("kept", "runs_within"): "book, floors, most",
    ("least", "least_run"): "book, floors",
    ("least", "lifted"): "book, run",
    ("least", "at_floors"): "book, floors",
    ("least", "spread"): "book, floors, moment, delay",
    ("whys", "why"): "book, floors",
    ("whys", "is_why"): "book, floors, run, value",
    ("refusals", "has_run"): "book",
    ("refusals", "refusal"): "book",
    ("refusals", "is_refusal"): "book, value",
    ("cores", "core"): "book",
    ("cores", "is_core"): "book, value",
    ("cores", "all_cores"): "book",
    ("follows", "follows"): "book, rule",
    ("follows", "reason"): "book, rule",
    ("follows", "is_reason"): "book, rule, value",
    ("follows", "against"): "book, rule",
    ("follows", "strength"): "book, rule",
    ("alike", "is_below"): "one, other",
    ("alike", "are_alike"): "one, other",
    ("alike", "parting"): "one, other",
    ("alike", "needless"): "book",
    ("alike", "lean"): "book",
    ("alike", "ways_of"): "book, position",
    ("spans", "span"): "book, a, b",
    ("spans", "spans"): "book",
    ("spans", "run_with"): "book, a, b, gap",
    ("spans", "loose_end"): "book, a, b",
    ("spans", "is_loose_end"): "book, a, b, value",
    ("forget", "holds"): "book, moment",
    ("forget", "forget"): "book, moment",
    ("forget", "forget_all"): "book, *moments",
    ("forget", "completed"): "book, moment, run",
    ("windows", "fits"): "book, floors, ceilings",
    ("windows", "window"): "book, floors, ceilings, moment",
    ("windows", "run_at"): "book, floors, ceilings, moment, time",
    ("windows", "anchored"): "book, zero, floors, ceilings",
    ("plans", "RoundRule"): "moment, terms",
    ("plans", "Plan"): "moments, rules=()",
    ("plans", "Plan.rules"): "self",
    ("plans", "at_pace"): "plan, pace",
    ("paces", "timetable"): "plan, pace",
    ("paces", "is_timetable"): "plan, pace, run",
    ("paces", "kind"): "plan",
    ("paces", "played"): "plan, start, rounds",
    ("bars", "bar"): "plan, pace",
    ("bars", "is_bar"): "plan, pace, value",
    ("bars", "ban"): "plan",
    ("bars", "is_ban"): "plan, value",
    ("bars", "licence"): "plan",
    ("bars", "is_licence"): "plan, value",
    ("texts", "book_text"): "book",
    ("texts", "plan_text"): "plan",
    ("texts", "read_book"): "text",
    ("texts", "read_plan"): "text",
    ("texts", "read_earliest"): "text",
    ("judge", "is_claim"): "value",
    ("judge", "is_true"): "claim",
    ("judge", "certificate"): "claim",
    ("judge", "is_certificate"): "claim, value",
    ("desk", "Desk"): "book",
    ("desk", "Desk.do"): "self, command",
    ("desk", "Desk.do_all"): "self, *commands",
    ("desk", "Desk.attempt"): "self, *commands",
    ("desk", "Desk.tried_by"): "self, deed",
    ("desk", "Desk.trial"): "self",
    ("desk", "Desk.take"): "self, other",
}
PROPERTIES = {
    ("terms", "Term"): ["moment", "shift"],
    ("earliest", "Earliest"): ["moments"],
    ("rules", "Rule"): ["moment", "earliest", "moments", "is_always", "is_never"],
    ("books", "Book"): ["moments"],
    ("drafts", "Draft"): ["book"],
    ("runs", "Run"): ["moments"],
    ("plans", "RoundRule"): ["moment", "terms", "moments"],
    ("plans", "Plan"): ["moments"],
    ("desk", "Desk"): ["book", "undoable"],
}


def found(file, path):
    """What stands under the dotted path in the file of the package."""
    value = importlib.import_module("anyofthese." + file)
    for name in path.split("."):
        value = getattr(value, name)
    return value


class InterfaceTest(unittest.TestCase):
    def test_each_class_has_its_methods_itself(self):
        for (file, name), members in CLASSES.items():
            made = found(file, name)
            self.assertEqual(made.__module__, "anyofthese." + file)
            for member in members:
                with self.subTest(name + "." + member):
                    self.assertIn(member, vars(made))

    def test_functions_are_defined_in_their_files(self):
        for file, path in PARAMETERS:
            self.assertEqual(found(file, path).__module__, "anyofthese." + file)

    def test_parameters(self):
        for (file, path), parameters in PARAMETERS.items():
            with self.subTest(path):
                self.assertEqual(str(inspect.signature(found(file, path))), "(" + parameters + ")")

    def test_properties(self):
        for (file, name), members in PROPERTIES.items():
            for member in members:
                self.assertIsInstance(vars(found(file, name))[member], property)

    def test_static_methods(self):
        for file, name in (("earliest", "Earliest"), ("runs", "Run")):
            self.assertIsInstance(vars(found(file, name))["of"], staticmethod)
