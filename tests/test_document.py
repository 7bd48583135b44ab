"""The examples of the document, row by row."""

import doctest
import unittest

STAGE_1 = """
>>> from anyofthese.earliest import Earliest
>>> from anyofthese.terms import Term
>>> keys = Term("ann") + 3 | Term("bob") - 2
>>> [str(keys), keys({"ann": 0, "bob": 4}), keys.first({"ann": 0, "bob": 5}), keys["bob"], keys.is_never_later(Earliest.of(ann=3))]
['ann+3 bob-2', 2, ('ann', 'bob'), -2, True]
>>> [str(2 + keys.put_in("bob", Earliest.of(ann=4, cat=0))), keys | Term("ann")]
['ann+4 cat', Earliest({'ann': 0, 'bob': -2})]
"""


class ExampleTest(unittest.TestCase):
    def rows(self, text):
        names = {}
        examples = doctest.DocTestParser().get_examples(text)
        self.assertGreater(len(examples), 2)
        for example in examples:
            with self.subTest(row=example.source):
                if example.want:
                    self.assertEqual(repr(eval(example.source, names)) + "\n", example.want)
                else:
                    exec(example.source, names)

    def test_stage_1(self):
        self.rows(STAGE_1)
