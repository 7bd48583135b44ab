"""The examples of the document, row by row."""

import doctest
import unittest

STAGE_1 = """
>>> from anyofthese.earliest import Earliest
>>> from anyofthese.terms import Term
>>> keys = Term("ann") + 3 | Term("bob") - 2
>>> [str(keys), keys({"ann": 0, "bob": 4}), keys.first({"ann": 0, "bob": 5}), keys["bob"], keys.is_never_later(Earliest.of(ann=3))]
['ann+3 bob-2', 2, ('ann', 'bob'), -2, True]
>>> [str(2 + keys.put_in("bob", Earliest.of(ann=4, cat=0))), keys | Term("ann")]
['ann+4 cat', Earliest({'ann': 0, 'bob': -2})]
"""

STAGE_2 = """
>>> from anyofthese.earliest import Earliest
>>> from anyofthese.terms import Term
>>> from anyofthese.books import Book, first_broken
>>> from anyofthese.rules import Rule
>>> both = Rule("shop", Term("ann") | Term("bob"))
>>> book = Book(["shop", "ann", "bob", "bus"], [both, Rule("ann", Term("bus") + 5), Rule("bob", Term("bus") + 9)])
>>> [book.moments, book[1], [str(rule) for rule in both.contrary()], str(1 + both)]
[('ann', 'bob', 'bus', 'shop'), Rule('ann', Earliest({'bus': 5})), ['rule ann shop+1', 'rule bob shop+1'], 'rule shop ann+1 bob+1']
>>> [first_broken(book, {"shop": 5, "ann": 5, "bob": 0, "bus": 0}), Rule("a", Term("a") - 1 | Term("b")).is_always]
[2, True]
>>> [Rule("ann", Term("bus") + 5) == Rule("ann", Earliest.of(bus=5)), Term("bus") == Earliest.of(bus=0)]
[True, False]
"""

STAGE_3 = STAGE_2 + """
>>> from anyofthese.kept import keeps, slacks, ways
>>> from anyofthese.runs import Run
>>> run = Run.of(shop=7, ann=7, bob=20, bus=2)
>>> [keeps(book, run), slacks(book, run), ways(book, run), run.gap("ann", "bus")]
[True, [0, 0, 9], [['ann'], ['bus'], ['bus']], 5]
>>> [keeps(book, run & (run + 3).with_time("ann", 8)), Run.of(a=1, b=5) | Run.of(a=3, b=0)]
[True, Run({'a': 3, 'b': 5})]
"""

STAGE_4 = STAGE_3 + """
>>> from anyofthese.least import least_run, spread
>>> from anyofthese.whys import is_why, why
>>> floors = Run.of(shop=0, ann=0, bob=20, bus=2)
>>> [least_run(book, floors), spread(book, floors, "bus", 20)]
[Run({'ann': 7, 'bob': 20, 'bus': 2, 'shop': 7}), {'ann': 20, 'bob': 11, 'bus': 20, 'shop': 20}]
>>> is_why(book, floors, run, [("bus", None), ("bob", None), ("ann", 1), ("shop", 0)])
True
>>> ring = Book(["a", "b", "c"], [Rule("a", Term("b") + 1 | Term("c")), Rule("b", Term("a") + 1 | Term("c"))])
>>> least_run(ring, Run.of(a=0, b=0, c=10 ** 50)) == Run.of(a=10 ** 50, b=10 ** 50, c=10 ** 50)
True
"""

STAGE_5 = STAGE_4 + """
>>> from anyofthese.cores import all_cores, core
>>> from anyofthese.refusals import has_run, is_refusal
>>> stuck = Book(["a", "b"], [Rule("a", Term("b") + 3), Rule("b", Term("a") - 2), Rule("b", Term("a") - 4)])
>>> [has_run(book), has_run(stuck), all_cores(stuck)]
[True, False, [(0, 1)]]
>>> [is_refusal(stuck, {"a": (0, 5), "b": (1, 0)}), is_refusal(stuck, {"a": (0, 0), "b": (1, 0)})]
[True, False]
"""

STAGE_6 = STAGE_5 + """
>>> from anyofthese.alike import lean, needless, ways_of
>>> from anyofthese.follows import follows, strength
>>> from anyofthese.spans import is_loose_end, span
>>> [follows(book, Rule("shop", Term("bus") + 5)), strength(book, Rule("shop", Term("bus"))), strength(book, Rule("bus", Term("shop")))]
[True, 5, None]
>>> [span(book, "shop", "bus"), span(book, "ann", "bob"), ways_of(book, 0)]
[(5, None), (None, None), {'ann': 'possible', 'bob': 'possible'}]
>>> [is_loose_end(book, "bus", "shop", (run, ("bus",))), needless(stuck), span(book, "ann", "ann")]
[True, [2], (0, 0)]
>>> more = book.with_rules(Rule("ann", Term("bob")), Rule("shop", Term("bus") + 3))
>>> [str(rule) for rule in lean(more).rules()]
['rule shop bob', 'rule bob bus+9', 'rule ann bob']
"""

STAGE_7 = STAGE_6 + """
>>> from anyofthese.forget import completed, forget
>>> from anyofthese.windows import window
>>> [[str(rule) for rule in forget(book, "bob").rules()], completed(book, "bob", Run.of(shop=5, ann=5, bus=0))]
[['rule shop ann bus+9', 'rule ann bus+5'], Run({'ann': 5, 'bob': 9, 'bus': 0, 'shop': 5})]
>>> [window(book, Run.of(shop=0, ann=0, bob=0, bus=0), {"shop": 12}, "bus"), forget(stuck, "b").rules()]
[(0, 7), [Rule('a', Earliest({'a': 1})), Rule('a', Earliest({'a': -1}))]]
"""

STAGE_8 = STAGE_7 + """
>>> from anyofthese.bars import is_bar
>>> from anyofthese.paces import is_timetable, kind, played
>>> from anyofthese.plans import Plan, RoundRule, at_pace
>>> plan = Plan(["a", "b"], [RoundRule("a", [("b", 3, 1)]), RoundRule("b", [("a", 4, 0), ("b", 2, 1)])])
>>> [kind(plan), [str(rule) for rule in at_pace(plan, (2, 1)).rules()], str(plan[1])]
[('least', (2, 1)), ['rule a b+1', 'rule b a+4 b'], 'rule b a+4 b+2@1']
>>> [is_timetable(plan, (2, 1), Run.of(a=1, b=0)), is_bar(plan, (2, 1), {"a": (0, 0, 0), "b": (1, 0, 0)})]
[True, True]
>>> played(Plan(["a", "b"], [RoundRule("a", [("b", 3, 1)]), RoundRule("b", [("a", 1, 2)])]), Run.of(a=0, b=0), 3)
[Run({'a': 3, 'b': 1}), Run({'a': 4, 'b': 1}), Run({'a': 4, 'b': 4})]
"""

STAGE_9 = STAGE_8 + """
>>> from anyofthese.desk import Desk
>>> desk = Desk(book)
>>> desk.do_all("follows shop bus+5", "rule bus shop-5", "span bus shop", "forget bob", "book", "undo", "needless")
['yes', 'done', '-5 -5', 'done', 'rule shop ann bus+9 ; rule ann bus+5 ; rule bus shop-5', 'done', '-']
"""


class ExampleTest(unittest.TestCase):
    def rows(self, text):
        names = {}
        examples = doctest.DocTestParser().get_examples(text)
        self.assertGreater(len(examples), 2)
        for example in examples:
            with self.subTest(row=example.source):
                if example.want:
                    self.assertEqual(repr(eval(example.source, names)) + "\n", example.want)
                else:
                    exec(example.source, names)

    def test_stage_1(self):
        self.rows(STAGE_1)

    def test_stage_2(self):
        self.rows(STAGE_2)

    def test_stage_3(self):
        self.rows(STAGE_3)

    def test_stage_4(self):
        self.rows(STAGE_4)

    def test_stage_5(self):
        self.rows(STAGE_5)

    def test_stage_6(self):
        self.rows(STAGE_6)

    def test_stage_7(self):
        self.rows(STAGE_7)

    def test_stage_8(self):
        self.rows(STAGE_8)

    def test_stage_9(self):
        self.rows(STAGE_9)
