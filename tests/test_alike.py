"""Promises [62] to [64]: books that say the same, needless rules, lean books, and how sure alternatives are."""

from anyofthese.alike import are_alike, is_below, lean, needless, parting, ways_of
from anyofthese.books import Book
from anyofthese.earliest import Earliest
from anyofthese.errors import InvalidPosition, NoRun, OtherMoments
from anyofthese.follows import follows
from anyofthese.kept import keeps
from anyofthese.refusals import has_run
from anyofthese.rules import Rule
from anyofthese.runs import Run
from anyofthese.terms import Term
from tests.samples import BIG, EIGHT, LOW, NO_INTEGERS, SHOP, Case
from tests.trials import (
    are_kept, book_with_run, chance, follows_by_lifting, great_book, is_kept, runs_in_box, some_book,
)

STUCK = Book(["a", "b"], [Rule("a", Term("b") + 3), Rule("b", Term("a") - 2), Rule("b", Term("a") - 4)])
MORE = SHOP.with_rules(Rule("ann", Term("bob")), Rule("shop", Term("bus") + 3))


class BelowTest(Case):
    def right(self, one, other, below, above):
        """What is told of both books, if it is known which one is below which one."""
        self.same(is_below(one, other), below)
        self.same(is_below(other, one), above)
        self.same(are_alike(one, other), below and above)
        told = parting(one, other)
        self.same(parting(one, other), told)
        if below and above:
            self.same(told, None)
            return
        self.assertIs(told.__class__, tuple)
        self.assertEqual([part.__class__ for part in told], [int, Run])
        self.assertIn(told[0], [0] if above else [1] if below else [0, 1])
        book, wrong = (one, other) if told[0] == 0 else (other, one)
        self.assertTrue(keeps(book, told[1]))
        self.assertFalse(keeps(wrong, told[1]))

    def test_against_all_times_of_a_box(self):
        luck = chance(1)
        found = {}
        for _ in range(150):
            names = "abc"[:luck.randint(1, 3)]
            one = some_book(luck, names, luck.randint(0, 3), 3, 2)
            other = some_book(luck, names, luck.randint(0, 3), 3, 2)
            if luck.random() < 0.3:
                other = one.with_rules(*other.rules())
            below = all(are_kept(other, times) for times in runs_in_box(one, 6))
            above = all(are_kept(one, times) for times in runs_in_box(other, 6))
            self.right(one, other, below, above)
            found[below, above] = found.get((below, above), 0) + 1
        self.assertGreater(min(found.values()), 5)
        self.assertEqual(len(found), 4)

    def test_the_same_rules(self):
        luck = chance(2)
        for _ in range(20):
            book = some_book(luck, "abcd", 5)
            rules = book.rules()
            luck.shuffle(rules)
            self.right(book, book, True, True)
            self.right(book, Book(book.moments, rules), True, True)
            self.right(book, Book(book.moments, rules + rules[:2]), True, True)
            self.right(book.with_rules(Rule("a", Term("a"))), book, True, True)

    def test_one_rule_weaker_or_stronger(self):
        luck = chance(3)
        strict = 0
        for _ in range(40):
            book = book_with_run(luck, "abc", 4)
            position = luck.randrange(4)
            rule = book[position]
            others = book.without(position)
            weaker, stronger = others.with_rules(rule - 1), others.with_rules(rule + 1)
            self.right(book, weaker, True, follows_by_lifting(weaker, rule))
            self.right(stronger, book, True, follows_by_lifting(book, rule + 1))
            strict += not are_alike(stronger, book)
            # What is weaker by 50 says no more than what is weaker by any greater number.
            above = follows_by_lifting(others.with_rules(rule - 50), rule)
            self.right(book, others.with_rules(rule - BIG), True, above)
        self.assertGreater(strict, 10)
        weak = Book(["a", "b"], [Rule("a", Term("b") + BIG - 1)])
        strong = Book(["a", "b"], [Rule("a", Term("b") + BIG)])
        self.right(strong, weak, True, False)
        self.same(parting(strong, weak)[1].gap("a", "b"), BIG - 1)
        self.same(parting(weak, strong)[0], 0)

    def test_without_a_run(self):
        free = Book(["a", "b"])
        self.right(STUCK, free, True, False)
        self.right(STUCK, Book(["a", "b"], [Rule("b", Term("b") + 1)]), True, True)
        self.right(free, free, True, True)

    def test_great_books(self):
        luck = chance(4)
        for _ in range(3):
            book = great_book(luck)
            self.right(book, book.without(99), True, follows(book.without(99), book[99]))
            rules = book.rules()
            luck.shuffle(rules)
            self.right(Book(EIGHT, rules), book, True, True)

    def test_other_moments(self):
        for one, other in ((SHOP, STUCK), (STUCK, SHOP), (Book(["a"]), STUCK), (STUCK, Book(["a", "b", "c"]))):
            told = {"one": one.moments, "other": other.moments}
            for call in (is_below, are_alike, parting):
                self.fails(OtherMoments, told, call, one, other)
                self.fails(OtherMoments, told, call, other=other, one=one)
                call(one, one)

    def test_by_name(self):
        self.same(is_below(other=SHOP, one=MORE), True)
        self.same(is_below(one=SHOP, other=MORE), False)
        self.same(are_alike(other=SHOP, one=MORE), False)
        self.same(parting(other=SHOP, one=MORE)[0], 1)


class NeedlessTest(Case):
    def test_beside_follows_of_the_book_without_it(self):
        luck = chance(5)
        found = {True: 0, False: 0}
        for _ in range(80):
            book = some_book(luck, "abc", luck.randint(0, 6), 2, 2)
            told = needless(book)
            self.assertIs(told.__class__, list)
            wanted = [k for k in range(len(book)) if follows_by_lifting(book.without(k), book[k])]
            self.same(told, wanted)
            self.same(told, [k for k in range(len(book)) if follows(book.without(k), book[k])])
            found[has_run(book)] += len(told) > 0
        self.assertGreater(min(found.values()), 10)

    def test_examples(self):
        self.same(needless(book=STUCK), [2])
        self.same(needless(SHOP), [])
        self.same(needless(MORE), [1, 4])
        self.same(needless(SHOP & SHOP), [0, 1, 2, 3, 4, 5])
        self.same(needless(Book(["a"])), [])
        self.same(needless(Book(["a"], [Rule("a", Term("a"))])), [0])
        self.same(needless(Book(["a"], [Rule("a", Term("a") + 1)])), [])
        self.same(needless(Book(["a"], [Rule("a", Term("a") + 1)] * 2)), [0, 1])
        needless(MORE).clear()
        self.same(needless(MORE), [1, 4])


def lean_by_lifting(book):
    """The lean book, just as [63] tells it."""
    rules = book.rules()
    for k in range(len(rules) - 1, -1, -1):
        for alternative in sorted(book[k].earliest.shifts())[::-1]:
            shifts = rules[k].earliest.shifts()
            del shifts[alternative]
            if shifts and follows_by_lifting(book, Rule(rules[k].moment, Earliest(shifts))):
                rules[k] = Rule(rules[k].moment, Earliest(shifts))
    for k in range(len(rules) - 1, -1, -1):
        if follows_by_lifting(Book(book.moments, rules[:k] + rules[k + 1:]), rules[k]):
            del rules[k]
    return Book(book.moments, rules)


class LeanTest(Case):
    def test_just_as_it_is_told(self):
        luck = chance(6)
        shorter = fewer = 0
        for _ in range(120):
            book = book_with_run(luck, "abcd"[:luck.randint(1, 4)], luck.randint(0, 7), 3, 2)
            wanted = lean_by_lifting(book)
            self.same(lean(book), wanted)
            fewer += len(wanted) < len(book)
            shorter += any(rule not in book for rule in wanted.rules())
        self.assertGreater(min(shorter, fewer), 30)

    def test_alike_and_without_needless_rules(self):
        luck = chance(7)
        for rules, most in ((100, 8), (100, 2), (30, 3)):
            book = great_book(luck, rules, most)
            left = lean(book)
            self.assertTrue(are_alike(left, book))
            self.same(needless(left), [])
            self.same(lean(left), left)
            self.same(lean(book), left)
            for rule in left.rules():
                for alternative in rule.earliest.moments:
                    if len(rule.earliest) > 1:
                        self.assertFalse(follows(book, Rule(rule.moment, rule.earliest.without(alternative))))

    def test_examples(self):
        told = [str(rule) for rule in lean(book=MORE).rules()]
        self.same(told, ["rule shop bob", "rule bob bus+9", "rule ann bob"])
        self.same(lean(SHOP), SHOP)
        self.same(lean(Book(["a", "b"])), Book(["a", "b"]))
        self.same(lean(Book(["a"], [Rule("a", Term("a") + LOW)] * 3)), Book(["a"]))
        self.same(lean(SHOP & SHOP), SHOP)
        self.same(MORE, SHOP.with_rules(Rule("ann", Term("bob")), Rule("shop", Term("bus") + 3)))

    def test_the_last_ones_first(self):
        # Either alternative could be left out, and either of two rules.
        ring = [Rule("b", Term("c")), Rule("c", Term("b"))]
        book = Book(["a", "b", "c"], ring + [Rule("a", Term("b") | Term("c"))])
        self.same(lean(book), Book(book.moments, ring + [Rule("a", Term("b"))]))
        pair = [Rule("a", Term("b")), Rule("a", Term("c"))]
        self.same(lean(Book(book.moments, ring + pair)), Book(book.moments, ring + pair[:1]))
        self.same(lean(Book(book.moments, pair + ring)), Book(book.moments, pair[:1] + ring))
        # What is left of a rule is not what follows from the other ones: it is asked of the given book.
        same = Rule("a", Term("b") | Term("c"))
        self.same(lean(Book(["a", "b", "c"], [same, same])), Book(["a", "b", "c"], [same]))

    def test_no_run(self):
        self.fails(NoRun, {}, lean, STUCK)
        self.fails(NoRun, {}, lean, Book(["a"], [Rule("a", Term("a") + 1)] * 2))
        self.same(needless(STUCK), [2])
        self.same(lean(STUCK.without(0)), Book(["a", "b"], [Rule("b", Term("a") - 2)]))


class WaysTest(Case):
    def test_against_all_times_of_a_box(self):
        luck = chance(8)
        found = {}
        for _ in range(80):
            book = book_with_run(luck, "abc", luck.randint(1, 4), 3, 2)
            runs = runs_in_box(book, 6)
            for position, rule in enumerate(book.rules()):
                told = ways_of(book, position)
                wanted = {}
                for moment, shift in sorted(rule.earliest.shifts().items()):
                    kept = [is_kept(Rule(rule.moment, Term(moment, shift)), times) for times in runs]
                    wanted[moment] = "sure" if all(kept) else "possible" if any(kept) else "impossible"
                    found[wanted[moment]] = found.get(wanted[moment], 0) + 1
                self.same(told, wanted)
                self.assertEqual(list(told), sorted(told))
        self.assertEqual(sorted(found), ["impossible", "possible", "sure"])
        self.assertGreater(min(found.values()), 10)

    def test_great_books(self):
        luck = chance(9)
        book = great_book(luck)
        for position in (0, 50, 99):
            shifts = book[position].earliest.shifts()
            for moment, way in ways_of(book, position).items():
                alone = Rule(book[position].moment, Term(moment, shifts[moment]))
                self.assertEqual(way == "sure", follows(book, alone))
                self.assertEqual(way != "impossible", has_run(book.without(position).with_rules(alone)))

    def test_examples(self):
        self.same(ways_of(SHOP, 0), {"ann": "possible", "bob": "possible"})
        self.same(ways_of(position=1, book=SHOP), {"bus": "sure"})
        self.same(ways_of(MORE, 0), {"ann": "possible", "bob": "sure"})
        late = SHOP.with_rules(Rule("bus", Term("shop") - 6))
        self.same(ways_of(late, 0), {"ann": "sure", "bob": "impossible"})
        just = SHOP.with_rules(Rule("bus", Term("shop") - 9))
        self.same(ways_of(just, 0), {"ann": "possible", "bob": "possible"})
        book = Book(["a"], [Rule("a", Term("a") - BIG)])
        self.same(ways_of(book, 0), {"a": "sure"})
        own = Book(["a", "b"], [Rule("a", Term("a") + 1 | Term("b"))])
        self.same(ways_of(own, 0), {"a": "impossible", "b": "sure"})
        ways_of(SHOP, 0).clear()
        self.same(ways_of(SHOP, 0), {"ann": "possible", "bob": "possible"})

    def test_a_hundred_rules(self):
        book = Book(EIGHT, [Rule("a", Term("b") | Term("c"))] * 100)
        self.same(ways_of(book, 99), {"b": "possible", "c": "possible"})

    def test_errors(self):
        for position in NO_INTEGERS + [-1, -3, 3, BIG, LOW, "0"]:
            self.fails(InvalidPosition, {"value": position}, ways_of, SHOP, position)
            self.fails(InvalidPosition, {"value": position}, ways_of, STUCK, position)
        self.fails(InvalidPosition, {"value": 0}, ways_of, Book(["a"]), 0)
        for position in range(3):
            self.fails(NoRun, {}, ways_of, STUCK, position)
        self.same(ways_of(SHOP, 2), {"bus": "sure"})

    def test_growing_books(self):
        luck = chance(10)
        book = great_book(luck, 30, 3)
        before = {}
        for many in range(1, 31):
            part = Book(EIGHT, book.rules()[:many])
            now = ways_of(part, 0)
            for moment in before:
                self.assertIn((before[moment], now[moment]), [
                    ("sure", "sure"), ("impossible", "impossible"), ("possible", "sure"), ("possible", "possible"),
                    ("possible", "impossible"),
                ])
            before = now
