"""Values and a test case that several tests share."""

import unittest

from anyofthese.books import Book
from anyofthese.earliest import Earliest
from anyofthese.rules import Rule
from anyofthese.runs import Run
from anyofthese.terms import Term

BIG = 10 ** 59 + 123456789
LOW = -(10 ** 59) - 987654321

NAMES = ["a", "z", "abcdefgh", "zzzzzzzz", "ann", "class", "self", "cls"]
EIGHT = ["a", "b", "c", "d", "e", "f", "g", "h"]

# The book of the document's examples.
SHOP = Book(
    ["shop", "ann", "bob", "bus"],
    [Rule("shop", Term("ann") | Term("bob")), Rule("ann", Term("bus") + 5), Rule("bob", Term("bus") + 9)],
)

ODD_VALUES = [
    None, True, False, b"a", [], ["a"], (), ("a",), {}, {"a": 1}, object(), int, len, Term("a"), Earliest.of(a=0),
    Rule("a", Term("a")), Book(["a"]), Run.of(a=0),
]
NO_NAMES = ODD_VALUES + [
    "", "abcdefghi", "Ann", "aNn", "anN", "a1", "1a", "a b", " a", "a ", "a_b", "a-b", "a\n", "`", "{", "@",
    "[", 0, 5, -3,
]
NO_INTEGERS = ODD_VALUES + ["", "1", "a", "-1", [1], (1,), {1: 1}]

# What is no TIMES of whatever moments.
NO_TIMES = [value for value in ODD_VALUES if value != {"a": 1}] + [
    5, "a", [("a", 1)], {"a": 1, "Ann": 2}, {"a": 1, "": 2}, {"a": 1, "abcdefghi": 2}, {"a": 1, 2: 3},
    {"a": 1, None: 2}, {"a": 1, True: 2}, {"a": 1, ("a",): 2},
    {"a": True}, {"a": None}, {"a": "1"}, {"a": [1]}, {"a": 1, "b": False},
    {"a": 1, "other": "2"}, {"a": 1, "other": {}}, {"b": 1, "a": (1,)},
]

# What is no pace, and what is no ceilings of whatever book.
NO_PACES = ODD_VALUES + NO_INTEGERS + [
    5, (1,), (1, 1, 1), [1, 1], (1, 0), (1, -1), (0, 0), (True, 1), (1, True), (1, False), (None, 1), (1, None), ("1", 1),
    (1, "1"), ((1,), 1), (1, [1]), {1: 1}, {0: 1, 1: 1}, "11", b"11", (1, BIG * 0), (BIG, LOW),
]
NO_CEILINGS = [value for value in ODD_VALUES if value not in ({}, {"a": 1})] + [
    5, "a", [("a", 1)], (("a", 1),), {"a": True}, {"a": False}, {"a": None}, {"a": "1"}, {"a": [1]}, {"a": (1,)},
    {"A": 1}, {"": 1}, {None: 1}, {True: 1}, {0: 1}, {("a",): 1}, {b"a": 1}, {"zoe": 1}, {"a": 1, "zoe": 1},
]


class Case(unittest.TestCase):
    def fails(self, error, told, call, *passed, **named):
        """The call raises an error of just this class, with just these attributes, and changes no argument."""
        before = repr((passed, named))
        with self.assertRaises(error) as caught:
            call(*passed, **named)
        self.assertIs(caught.exception.__class__, error)
        attributes = vars(caught.exception)
        self.assertEqual(sorted(attributes), sorted(told))
        for name, value in told.items():
            self.same(attributes[name], value)
        self.assertEqual(repr((passed, named)), before)

    def same(self, found, wanted):
        """Equal and of the same class, also inside: 1 is not True, and a list is no tuple."""
        self.assertIs(found.__class__, wanted.__class__, (found, wanted))
        self.assertEqual(found, wanted)
        if isinstance(wanted, dict):
            self.assertEqual(list(found), list(wanted))
            for key in wanted:
                self.same(found[key], wanted[key])
        elif isinstance(wanted, (list, tuple)):
            for one, other in zip(found, wanted):
                self.same(one, other)

    def not_iterated(self, value):
        """The value is not iterated over, by whatever looks as if it could be."""
        for use in (iter, list, tuple, set, sorted, lambda it: [*it], lambda it: [row for row in it]):
            with self.assertRaises(TypeError):
                use(value)
