"""Promise [65]: how far apart two moments can be."""

from anyofthese.books import Book
from anyofthese.earliest import Earliest
from anyofthese.errors import InvalidShift, NoRun, UnknownMoment
from anyofthese.follows import strength
from anyofthese.kept import keeps
from anyofthese.rules import Rule
from anyofthese.runs import Run
from anyofthese.spans import is_loose_end, loose_end, run_with, span, spans
from anyofthese.terms import Term
from tests.samples import BIG, EIGHT, LOW, NO_INTEGERS, NO_NAMES, ODD_VALUES, SHOP, Case
from tests.trials import are_kept, book_with_run, chance, great_book, runs_in_box, some_book

RUN = Run.of(shop=7, ann=7, bob=20, bus=2)
STUCK = Book(["a", "b"], [Rule("a", Term("b") + 3), Rule("b", Term("a") - 2), Rule("b", Term("a") - 4)])


def told_loose_end(book, a, b, run, moments):
    """Whether both are a loose end of a and b, by the conditions of [65]."""
    if not are_kept(book, run.times()) or list(moments) != sorted(set(moments)):
        return False
    if a not in moments or b in moments or not set(moments) <= set(book.moments):
        return False
    for rule in book.rules():
        if rule.moment in moments:
            shifts = rule.earliest.shifts()
            if not any(run[rule.moment] >= run[by] + shifts[by] for by in shifts if by in moments):
                return False
    return True


class SpanTest(Case):
    def test_against_all_times_of_a_box(self):
        luck = chance(1)
        ends = {True: 0, False: 0}
        for _ in range(40):
            names = "abc"[:luck.randint(1, 3)]
            book = book_with_run(luck, names, luck.randint(0, 5), 2, 2)
            # An end is at most 2 * 2 away from 0; what can be 7 away in a box of 15 has no end.
            runs = runs_in_box(book, 15)
            wanted = {}
            for a in names:
                for b in names:
                    gaps = sorted(set(times[a] - times[b] for times in runs))
                    low = None if gaps[0] < -6 else gaps[0]
                    high = None if gaps[-1] > 6 else gaps[-1]
                    between = list(range(max(gaps[0], -6), min(gaps[-1], 6) + 1))
                    self.assertEqual([gap for gap in gaps if -7 < gap < 7], between)
                    self.same(span(book, a, b), (low, high))
                    ends[low is None] += a != b
                    if a < b:
                        wanted[a, b] = (low, high)
            self.same(spans(book), wanted)
            self.assertEqual(list(spans(book)), sorted(wanted))
        self.assertGreater(min(ends.values()), 15)

    def test_the_same_moment(self):
        luck = chance(2)
        for _ in range(10):
            book = book_with_run(luck, "abc", 4)
            for moment in "abc":
                self.same(span(book, moment, moment), (0, 0))
                self.same(loose_end(book, moment, moment), None)
                self.assertTrue(keeps(book, run_with(book, moment, moment, 0)))
                for gap in (1, -1, BIG, LOW):
                    self.same(run_with(book, moment, moment, gap), None)

    def test_turned_round_and_beside_strengths(self):
        luck = chance(3)
        for size, many in ((3, 6), (BIG, 6), (BIG, 12)):
            for _ in range(20):
                book = great_book(luck, many, 3, size)
                for a in "abc":
                    for b in "cde":
                        low, high = span(book, a, b)
                        turned = (None if high is None else -high, None if low is None else -low)
                        self.same(span(book, b, a), turned)
                        if a != b:
                            self.same(low, strength(book, Rule(a, Term(b))))

    def test_spans(self):
        told = spans(book=SHOP)
        self.same(told, {
            ("ann", "bob"): (None, None), ("ann", "bus"): (5, None), ("ann", "shop"): (None, None),
            ("bob", "bus"): (9, None), ("bob", "shop"): (None, None), ("bus", "shop"): (None, -5),
        })
        told.clear()
        self.assertEqual(len(spans(SHOP)), 6)
        self.same(spans(Book(["a"])), {})
        self.same(spans(Book(["b", "a"])), {("a", "b"): (None, None)})
        tight = Book(["a", "b"], [Rule("a", Term("b") + BIG), Rule("b", Term("a") - BIG)])
        self.same(spans(tight), {("a", "b"): (BIG, BIG)})
        self.same(span(a="b", b="a", book=tight), (-BIG, -BIG))
        self.same(span(SHOP, "shop", "bus"), (5, None))

    def test_a_high_end(self):
        book = Book(["a", "b", "c"], [Rule("b", Term("a") - 7 | Term("c")), Rule("c", Term("a") - 9)])
        self.same(span(book, "a", "b"), (None, 9))
        self.same(span(book, "a", "c"), (None, 9))
        self.same(span(book, "b", "a"), (-9, None))
        self.same(span(book.with_rules(Rule("a", Term("b") + BIG | Term("c") + 2)), "a", "c"), (2, 9))

    def test_no_run(self):
        for a in "ab":
            for b in "ab":
                self.fails(NoRun, {}, span, STUCK, a, b)
                self.fails(NoRun, {}, loose_end, STUCK, a, b)
                self.same(run_with(STUCK, a, b, 0), None)
                self.same(is_loose_end(STUCK, a, b, (Run.of(a=0, b=0), ("a",))), False)
        self.fails(NoRun, {}, spans, STUCK)
        self.fails(NoRun, {}, spans, Book(["a"], [Rule("a", Term("a") + 1)]))
        self.same(spans(STUCK.without(0)), {("a", "b"): (None, 2)})

    def test_unknown_moments(self):
        for wrong in NO_NAMES + ["zoe", "an"]:
            for call in (span, loose_end, lambda book, a, b: run_with(book, a, b, None),
                         lambda book, a, b: is_loose_end(book, a, b, None)):
                for book, right in ((SHOP, "bus"), (STUCK, "b")):
                    self.fails(UnknownMoment, {"value": wrong}, call, book, wrong, right)
                    self.fails(UnknownMoment, {"value": wrong}, call, book, right, wrong)
                    self.fails(UnknownMoment, {"value": wrong}, call, book, wrong, "zed")
                    self.fails(UnknownMoment, {"value": "zed"}, call, book, "zed", wrong)
        self.same(span(SHOP, "bus", "shop"), (None, -5))

    def test_growing_books(self):
        luck = chance(4)
        book = great_book(luck)
        before = spans(Book(EIGHT))
        self.assertEqual(set(before.values()), {(None, None)})
        for many in range(4, 101, 4):
            now = spans(Book(EIGHT, book.rules()[:many]))
            for pair, (low, high) in before.items():
                self.assertTrue(low is None or now[pair][0] >= low)
                self.assertTrue(high is None or now[pair][1] <= high)
            before = now
        self.assertNotIn(None, [low for low, _ in before.values()])


class RunWithTest(Case):
    def right(self, book, a, b, gap):
        run = run_with(book, a, b, gap)
        self.assertIs(run.__class__, Run)
        self.assertTrue(keeps(book, run))
        self.assertEqual(run[a] - run[b], gap)
        self.same(run_with(book, a, b, gap), run)

    def test_near_both_ends(self):
        luck = chance(5)
        for book in [book_with_run(luck, "abcd", 7) for _ in range(20)] + [great_book(luck, 20) for _ in range(10)]:
            for (a, b), (low, high) in spans(book).items():
                gaps = [0, BIG, LOW, BIG * 3] + [end + k for end in (low, high) if end is not None for k in (-1, 0, 1)]
                for gap in gaps:
                    if (low is not None and gap < low) or (high is not None and gap > high):
                        self.same(run_with(book, a, b, gap), None)
                        self.same(run_with(book, b, a, -gap), None)
                    else:
                        self.right(book, a, b, gap)
                        self.right(book, b, a, -gap)

    def test_examples(self):
        self.right(SHOP, "shop", "bus", 5)
        self.same(run_with(SHOP, "shop", "bus", 4), None)
        self.right(SHOP, "ann", "bob", BIG)
        self.right(SHOP, "ann", "bob", LOW)
        run = run_with(gap=7, b="bus", a="shop", book=SHOP)
        self.same([keeps(SHOP, run), run.gap("shop", "bus")], [True, 7])

    def test_invalid_shift(self):
        for gap in NO_INTEGERS:
            self.fails(InvalidShift, {"value": gap}, run_with, SHOP, "ann", "bus", gap)
            self.fails(InvalidShift, {"value": gap}, run_with, STUCK, "a", "a", gap)
            self.fails(UnknownMoment, {"value": "zoe"}, run_with, SHOP, "ann", "zoe", gap)
        self.right(SHOP, "ann", "bus", 5)


class LooseEndTest(Case):
    def told(self, value, a="bus", b="shop", book=SHOP):
        before = repr(value)
        found = is_loose_end(book, a, b, value)
        self.assertIs(found.__class__, bool)
        self.assertEqual(repr(value), before)
        return found

    def test_told_ones(self):
        luck = chance(6)
        found = {True: 0, False: 0}
        books = [some_book(luck, "abcd", luck.randint(0, 7)) for _ in range(80)]
        for book in books + [great_book(luck, many) for many in (5, 8, 12, 20, 100)]:
            for a in book.moments[:4]:
                for b in book.moments[-4:]:
                    try:
                        told = loose_end(book, a, b)
                    except NoRun:
                        self.same(is_loose_end(book, a, b, (Run({name: 0 for name in book.moments}), (a,))), False)
                        continue
                    self.assertEqual(told is None, span(book, a, b)[0] is not None)
                    found[told is None] += 1
                    if told is not None:
                        self.assertEqual([told.__class__] + [part.__class__ for part in told], [tuple, Run, tuple])
                        self.assertTrue(told_loose_end(book, a, b, *told))
                        self.same(is_loose_end(book, a, b, told), True)
                        self.same(loose_end(book, a, b), told)
        self.assertGreater(min(found.values()), 100)

    def test_all_of_these_can_be_earlier(self):
        luck = chance(7)
        for _ in range(40):
            book = book_with_run(luck, "abcd", 5)
            told = loose_end(book, "a", "b")
            if told is not None:
                run, moments = told
                for delay in (1, BIG):
                    earlier = Run({name: run[name] - delay * (name in moments) for name in book.moments})
                    self.assertTrue(keeps(book, earlier))

    def test_examples(self):
        self.same(self.told((RUN, ("bus",))), True)
        self.same(is_loose_end(value=(RUN, ("bus",)), b="shop", a="bus", book=SHOP), True)
        self.same(loose_end(SHOP, "shop", "bus"), None)
        told = loose_end(b="shop", a="bus", book=SHOP)
        self.same(self.told(told), True)
        self.same(self.told((RUN, ("ann", "bus")), "ann"), True)
        self.same(self.told((RUN, ("ann",)), "ann"), False)
        self.same(self.told((RUN, ("ann", "bus", "shop")), "shop", "bob"), True)
        self.same(self.told((RUN, ("bob", "bus", "shop")), "shop", "ann"), False)
        self.same(self.told((RUN, ("bob", "bus")), "bob", "ann"), True)
        self.same(self.told((RUN + BIG, ("ann", "bus")), "ann", "shop"), True)

    def test_moments(self):
        self.same(self.told((RUN, ("ann", "bob", "bus"))), True)
        self.same(self.told((RUN, ("ann", "bob", "bus")), "bob"), True)
        for moments in (
            ["bus"], ["ann", "bus"], ("bus", "ann"), ("bus", "bus"), ("ann", "ann", "bus"), ("bus", "bob", "ann"),
            (), ("ann",), ("bob",), ("ann", "bob"), ("ann", "bob", "bus", "shop"), ("bus", "shop"), ("bus", "zoe"),
            ("an", "bus"), "bus", {"bus": 1}, ("b", "u", "s"), {"bus"}, ("Bus", "bus"), ("ann", "bob", "bus", "zoe"),
        ):
            self.same(self.told((RUN, moments)), False)
        for wrong in NO_NAMES:
            self.same(self.told((RUN, (wrong,))), False)
            self.same(self.told((RUN, ("bus", wrong))), False)
            self.same(self.told((RUN, (wrong, "bus"))), False)
            self.same(self.told((RUN, wrong)), False)

    def test_runs(self):
        for run in (
            RUN.with_time("ann", 6), RUN.with_time("shop", 6), RUN.only(["ann", "bob", "bus"]), RUN.only(["bus"]),
            Run({**RUN.times(), "zoe": 0}), RUN.times(), SHOP, ("bus",),
        ):
            self.same(self.told((run, ("bus",))), False)
        for wrong in ODD_VALUES + [5, "bus"]:
            self.same(self.told((wrong, ("bus",))), False)
        self.same(self.told((RUN.with_time("shop", 10 ** 70), ("bus",))), True)

    def test_pairs(self):
        for value in ODD_VALUES + [
            [RUN, ("bus",)], (RUN,), (RUN, ("bus",), None), (("bus",), RUN), RUN, ("bus",), 5, "bus",
            {0: RUN, 1: ("bus",)}, ((RUN, ("bus",)),), (RUN, ("bus",), ("bus",)),
        ]:
            self.same(self.told(value), False)

    def test_the_same_moment(self):
        self.same(self.told((RUN, ("bus",)), "bus", "bus"), False)
        self.same(self.told((RUN, ("ann", "bus")), "bus", "ann"), False)
        self.same(self.told((RUN, ("bus",)), "bus", "ann"), True)

    def test_kept_by_an_alternative_of_these(self):
        book = Book(["a", "b", "c"], [Rule("a", Earliest.of(b=BIG, c=LOW))])
        by_b, by_c = Run.of(a=BIG, b=0, c=BIG * 3), Run.of(a=LOW, b=0, c=0)
        by_both = Run.of(a=BIG, b=0, c=0)
        for run, wanted in ((by_b, [True, False]), (by_c, [False, True]), (by_both, [True, True])):
            found = [self.told((run, ("a", "b")), "a", "c", book), self.told((run, ("a", "c")), "a", "b", book)]
            self.same(found, wanted)
        self.same(self.told((by_b - 1, ("a", "b")), "a", "c", book), True)
        self.same(self.told((by_b.with_time("b", 1), ("a", "b")), "a", "c", book), False)

    def test_changed_by_chance(self):
        luck = chance(8)
        found = {True: 0, False: 0}
        for _ in range(100):
            book = book_with_run(luck, "abcd", 5, 3, 2)
            runs = runs_in_box(book, 4)
            for _ in range(20):
                run = Run(luck.choice(runs))
                moments = tuple(sorted(luck.sample("abcd", luck.randint(1, 3))))
                a, b = luck.choice("abcd"), luck.choice("abcd")
                wanted = told_loose_end(book, a, b, run, moments)
                found[wanted] += 1
                self.same(is_loose_end(book, a, b, (run, moments)), wanted)
                if wanted:
                    self.same(span(book, a, b)[0], None)
        self.assertGreater(min(found.values()), 100)
