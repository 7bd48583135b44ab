"""The examples of the document, row by row."""

import doctest
import unittest

STAGE_1 = """
>>> from anyofthese.earliest import Earliest
>>> from anyofthese.terms import Term
>>> keys = Term("ann") + 3 | Term("bob") - 2
>>> [str(keys), keys({"ann": 0, "bob": 4}), keys.first({"ann": 0, "bob": 5}), keys["bob"], keys.is_never_later(Earliest.of(ann=3))]
['ann+3 bob-2', 2, ('ann', 'bob'), -2, True]
>>> [str(2 + keys.put_in("bob", Earliest.of(ann=4, cat=0))), keys | Term("ann")]
['ann+4 cat', Earliest({'ann': 0, 'bob': -2})]
"""

STAGE_2 = """
>>> from anyofthese.earliest import Earliest
>>> from anyofthese.terms import Term
>>> from anyofthese.books import Book, first_broken
>>> from anyofthese.rules import Rule
>>> both = Rule("shop", Term("ann") | Term("bob"))
>>> book = Book(["shop", "ann", "bob", "bus"], [both, Rule("ann", Term("bus") + 5), Rule("bob", Term("bus") + 9)])
>>> [book.moments, book[1], [str(rule) for rule in both.contrary()], str(1 + both)]
[('ann', 'bob', 'bus', 'shop'), Rule('ann', Earliest({'bus': 5})), ['rule ann shop+1', 'rule bob shop+1'], 'rule shop ann+1 bob+1']
>>> [first_broken(book, {"shop": 5, "ann": 5, "bob": 0, "bus": 0}), Rule("a", Term("a") - 1 | Term("b")).is_always]
[2, True]
>>> [Rule("ann", Term("bus") + 5) == Rule("ann", Earliest.of(bus=5)), Term("bus") == Earliest.of(bus=0)]
[True, False]
"""

# Of the example of stage 3 what it shows of Run; whether a run keeps the book is asked by is_run here.
RUNS = STAGE_2 + """
>>> from anyofthese.books import is_run
>>> from anyofthese.runs import Run
>>> run = Run.of(shop=7, ann=7, bob=20, bus=2)
>>> [is_run(book, run.times()), [rule.slack(run.times()) for rule in book.rules()], run.gap("ann", "bus")]
[True, [0, 0, 9], 5]
>>> [is_run(book, (run & (run + 3).with_time("ann", 8)).times()), Run.of(a=1, b=5) | Run.of(a=3, b=0)]
[True, Run({'a': 3, 'b': 5})]
"""


class ExampleTest(unittest.TestCase):
    def rows(self, text):
        names = {}
        examples = doctest.DocTestParser().get_examples(text)
        self.assertGreater(len(examples), 2)
        for example in examples:
            with self.subTest(row=example.source):
                if example.want:
                    self.assertEqual(repr(eval(example.source, names)) + "\n", example.want)
                else:
                    exec(example.source, names)

    def test_stage_1(self):
        self.rows(STAGE_1)

    def test_stage_2(self):
        self.rows(STAGE_2)

    def test_runs_of_stage_3(self):
        self.rows(RUNS)
