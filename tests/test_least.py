"""Promises [41] and [43]: least runs, lifting, moments at their floors, and what a delay moves."""

from anyofthese.books import Book
from anyofthese.drafts import Draft
from anyofthese.earliest import Earliest
from anyofthese.errors import InvalidCount, NoRun, OtherMoments, UnknownMoment
from anyofthese.kept import keeps, runs_within
from anyofthese.least import at_floors, least_run, lifted, spread
from anyofthese.rules import Rule
from anyofthese.runs import Run
from anyofthese.terms import Term
from tests.samples import BIG, LOW, NO_INTEGERS, NO_NAMES, SHOP, Case
from tests.trials import chance, lifted_often, lifted_once, some_book, some_rule, some_run, zeros

STUCK = Book(["a", "b"], [Rule("a", Term("b") + 3), Rule("b", Term("a") - 2)])


def wanted(book, floors):
    times = lifted_often(book, floors)
    return None if times is None else Run(times)


def times_of(run, number):
    """The Run with each time that many times as great."""
    return Run({moment: time * number for moment, time in run.times().items()})


def times_as_great(book, number):
    """The book with each shift that many times as great."""
    return Book(book.moments, [
        Rule(rule.moment, Earliest({a: shift * number for a, shift in rule.earliest.shifts().items()}))
        for rule in book.rules()
    ])


class LeastRunTest(Case):
    def test_against_lifting_again_and_again(self):
        luck = chance(1)
        found = {True: 0, False: 0}
        for _ in range(400):
            names = "abcdef"[:luck.randint(1, 6)]
            book = some_book(luck, names, luck.randint(0, 10), luck.randint(1, 4), luck.choice([1, 3, 9]))
            floors = some_run(luck, names, 9)
            least = least_run(book, floors)
            self.same(least, wanted(book, floors))
            found[least is None] += 1
        self.assertGreater(min(found.values()), 60)

    def test_beside_runs_within(self):
        luck = chance(2)
        for _ in range(150):
            names = "abc"[:luck.randint(1, 3)]
            book = some_book(luck, names, luck.randint(0, 5), 3, 2)
            floors = some_run(luck, names, 2)
            least = least_run(book, floors)
            runs = list(runs_within(book, floors, 8))
            self.assertEqual(least is None, runs == [])
            for run in runs:
                self.assertTrue(least.is_at_most(run))
            self.assertEqual(runs[:1], [] if least is None else [least])

    def test_books_with_zero_rings(self):
        # Without a floor that holds it, nothing in a ring of shifts that add up to 0 is late.
        book = Book(["a", "b", "c"], [Rule("a", Term("b") | Term("c")), Rule("b", Term("a") | Term("c"))])
        self.same(least_run(book, Run.of(a=0, b=0, c=10)), Run.of(a=0, b=0, c=10))
        self.same(least_run(book, Run.of(a=3, b=0, c=10)), Run.of(a=3, b=3, c=10))
        self.same(least_run(book, Run.of(a=30, b=0, c=BIG)), Run.of(a=30, b=30, c=BIG))
        self.same(least_run(book, Run.of(a=30, b=0, c=10)), Run.of(a=30, b=10, c=10))

    def test_nothing_is_counted_up(self):
        ring = Book(["a", "b", "c"], [Rule("a", Term("b") + 1 | Term("c")), Rule("b", Term("a") + 1 | Term("c"))])
        self.same(least_run(ring, Run.of(a=0, b=0, c=BIG)), Run.of(a=BIG, b=BIG, c=BIG))
        self.same(least_run(ring, Run.of(a=0, b=0, c=LOW)), Run.of(a=0, b=0, c=LOW))
        self.same(least_run(ring, Run.of(a=LOW, b=0, c=BIG)), Run.of(a=BIG, b=BIG, c=BIG))
        slow = Book(["a", "b", "c"], [
            Rule("a", Term("b") + BIG | Term("c")), Rule("b", Term("a") - BIG + 1 | Term("c") - BIG),
        ])
        self.same(least_run(slow, Run.of(a=0, b=LOW, c=BIG)), Run.of(a=BIG, b=0, c=BIG))
        stuck = Book(["a", "b"], [Rule("a", Term("b") + BIG), Rule("b", Term("a") - BIG + 1)])
        self.same(least_run(stuck, Run.of(a=LOW, b=BIG)), None)
        calm = Book(["a", "b"], [Rule("a", Term("b") + BIG), Rule("b", Term("a") - BIG)])
        self.same(least_run(calm, Run.of(a=LOW, b=BIG)), Run.of(a=BIG + BIG, b=BIG))

    def test_no_run(self):
        self.same(least_run(STUCK, zeros("ab")), None)
        self.same(least_run(Book(["a", "b"], [Rule("b", Term("b") + 1)]), Run.of(a=0, b=0)), None)
        last = Book(["a", "b"], [Rule("b", Term("b") + 1 | Term("a"))])
        self.same(least_run(last, Run.of(a=3, b=0)), Run.of(a=3, b=3))

    def test_without_rules_and_of_rules_that_are_always_kept(self):
        floors = Run.of(a=BIG, b=LOW)
        always = [Rule("a", Term("a")), Rule("b", Term("b") + LOW), Rule("b", Term("b") | Term("a") + BIG)]
        self.same(least_run(Book(["a", "b"]), floors), floors)
        self.same(least_run(Book(["a", "b"], always), floors), floors)
        luck = chance(3)
        for _ in range(40):
            book = some_book(luck, "ab", 3)
            self.same(least_run(book.with_rules(*always), floors), least_run(book, floors))

    def test_the_left_among_its_alternatives(self):
        book = Book(["a", "b"], [Rule("a", Term("a") + 1 | Term("b"))])
        self.same(least_run(book, Run.of(a=0, b=BIG)), Run.of(a=BIG, b=BIG))
        self.same(least_run(book, Run.of(a=0, b=-1)), Run.of(a=0, b=-1))
        luck = chance(4)
        for _ in range(100):
            rules = [Rule(name, Earliest({name: luck.randint(-1, 2), luck.choice("xyz"): luck.randint(-3, 3)}))
                     for name in "xyz"]
            book = Book(["x", "y", "z"], rules)
            floors = some_run(luck, "xyz", 20)
            self.same(least_run(book, floors), wanted(book, floors))

    def test_floors_moved_multiplied_and_later(self):
        luck = chance(5)
        for _ in range(60):
            book = some_book(luck, "abcde", 7)
            floors = some_run(luck, "abcde", 6)
            least = least_run(book, floors)
            for number in (0, 1, BIG):
                if least is None:
                    self.same(least_run(times_as_great(book, BIG), times_of(floors, number)), None)
                    self.same(least_run(book, floors + number), None)
                else:
                    self.same(least_run(book, floors + number), least + number)
                    self.same(least_run(book, floors - number), least - number)
            if least is not None:
                self.same(least_run(times_as_great(book, BIG), times_of(floors, BIG)), times_of(least, BIG))
                self.same(least_run(book, least), least)
                self.assertTrue(floors.is_at_most(least))
                self.assertTrue(keeps(book, least))
                later = floors | some_run(luck, "abcde", 9)
                self.assertTrue(least.is_at_most(least_run(book, later)))
                between = floors | (least - 1)
                self.same(least_run(book, between), least)

    def test_a_hundred_rules_with_sixty_digits(self):
        luck = chance(6)
        names = "abcdefgh"
        for most in (1, 2, 8):
            for _ in range(20):
                book = some_book(luck, names, 99, most, BIG)
                height = some_run(luck, names, BIG)
                # Each rule gets an alternative that the heights keep, and one that only just does.
                rules = []
                for rule in book.rules():
                    other = luck.choice(sorted(set(names) - {rule.moment}))
                    gap = height.gap(rule.moment, other) - luck.randint(0, 1)
                    rules.append(Rule(rule.moment, rule.earliest | Term(other, gap)))
                book = Book(list(names), rules)
                self.assertTrue(keeps(book, height))
                floors = height - BIG | some_run(luck, names, 5) + LOW
                least = least_run(book, floors)
                self.assertTrue(least.is_at_most(height + 2 * BIG))
                self.assertTrue(keeps(book, least))
                self.same(lifted(book, least), least)
                self.same(least_run(book, least), least)
                self.same(least_run(book, floors), least)

    def test_other_books_out_of_one_that_was_asked(self):
        luck = chance(7)
        for _ in range(30):
            book = some_book(luck, "abcd", 5)
            floors = some_run(luck, "abcd", 5)
            more = some_rule(luck, "abcd", 2, 3)
            names = dict(zip("abcd", "dcba"))
            new_floors = Run({names[name]: floors[name] for name in "abcd"})
            draft = Draft(book)
            made = draft.book
            for _ in range(2):
                self.same(least_run(book, floors), wanted(book, floors))
                self.same(least_run(book.with_rules(more), floors), wanted(book.with_rules(more), floors))
                self.same(least_run(book.without(0), floors), wanted(book.without(0), floors))
                self.same(least_run(book & Book(["a"], [Rule("a", Term("a") - 1)]), floors), wanted(book, floors))
                self.same(least_run(book.renamed(names), new_floors), wanted(book.renamed(names), new_floors))
                self.same(least_run(draft.book, floors), wanted(draft.book, floors))
                self.same(least_run(made, floors), wanted(book, floors))
                draft.put(1, more)
                draft.drop(0)

    def test_other_moments(self):
        for floors in (Run.of(ann=1), zeros(["ann", "bob", "bus", "shop", "zoe"]), zeros(["ann", "bob", "bus", "zoe"])):
            told = {"one": SHOP.moments, "other": floors.moments}
            self.fails(OtherMoments, told, least_run, SHOP, floors)
            self.fails(OtherMoments, told, lifted, SHOP, floors)
            self.fails(OtherMoments, told, at_floors, SHOP, floors)
            for moment in NO_NAMES + ["bus", "zoe"]:
                self.fails(OtherMoments, told, spread, SHOP, floors, moment, -1)
        self.fails(OtherMoments, {"one": ("a", "b"), "other": ("a",)}, at_floors, STUCK, Run.of(a=0))
        self.fails(OtherMoments, {"one": ("a", "b"), "other": ("a",)}, spread, STUCK, Run.of(a=0), "a", 0)
        self.fails(OtherMoments, {"one": ("a", "b"), "other": ("a",)}, least_run, STUCK, Run.of(a=0))
        self.same(least_run(floors=zeros(SHOP.moments), book=SHOP), Run.of(ann=5, bob=9, bus=0, shop=5))


class LiftedTest(Case):
    def test_the_times_as_they_were(self):
        book = Book(["a", "b", "c"], [Rule("b", Term("a") + 1), Rule("c", Term("b") + 1), Rule("a", Term("c") - 5)])
        self.same(lifted(book, Run.of(a=10, b=0, c=0)), Run.of(a=10, b=11, c=1))
        self.same(lifted(run=Run.of(a=10, b=11, c=1), book=book), Run.of(a=10, b=11, c=12))
        self.same(lifted(book, Run.of(a=10, b=11, c=12)), Run.of(a=10, b=11, c=12))
        self.same(lifted(book, Run.of(a=0, b=0, c=BIG)), Run.of(a=BIG - 5, b=1, c=BIG))

    def test_the_greatest_of_several_rules(self):
        rules = [Rule("a", Term("b") + 2), Rule("a", Term("b") + 3 | Term("c")), Rule("a", Term("c") - 9)]
        book = Book(["a", "b", "c"], rules)
        self.same(lifted(book, Run.of(a=0, b=0, c=0)), Run.of(a=2, b=0, c=0))
        self.same(lifted(book, Run.of(a=0, b=0, c=7)), Run.of(a=3, b=0, c=7))
        self.same(lifted(book, Run.of(a=0, b=0, c=17)), Run.of(a=8, b=0, c=17))
        self.same(lifted(book, Run.of(a=9, b=0, c=17)), Run.of(a=9, b=0, c=17))

    def test_beside_a_plain_lifting(self):
        luck = chance(8)
        stays = 0
        for _ in range(200):
            book = some_book(luck, "abc", luck.randint(0, 5))
            run = some_run(luck, "abc", 5)
            self.same(lifted(book, run), Run(lifted_once(book, run.times())))
            self.assertEqual(lifted(book, run) == run, keeps(book, run))
            stays += keeps(book, run)
        self.assertGreater(stays, 20)

    def test_what_is_passed_stays(self):
        run = Run.of(a=0, b=5)
        self.same(lifted(STUCK, run), Run.of(a=8, b=5))
        self.same(run, Run.of(a=0, b=5))
        self.same(lifted(STUCK, run), Run.of(a=8, b=5))


class FloorsTest(Case):
    floors = Run.of(shop=0, ann=0, bob=20, bus=2)

    def test_at_floors(self):
        self.same(at_floors(SHOP, self.floors), ["bob", "bus"])
        self.same(at_floors(floors=self.floors.with_time("shop", 7), book=SHOP), ["bob", "bus", "shop"])
        self.same(at_floors(SHOP, self.floors.with_time("shop", 6)), ["bob", "bus"])
        self.same(at_floors(Book(["b", "a"]), Run.of(a=1, b=2)), ["a", "b"])
        never = Book(["a", "b"], [Rule("a", Term("b") + 1)])
        self.same(at_floors(never, Run.of(a=BIG, b=BIG)), ["b"])

    def test_at_floors_and_spread_by_chance(self):
        luck = chance(9)
        for _ in range(120):
            book = some_book(luck, "abcd", 5)
            floors = some_run(luck, "abcd", 5)
            moment = luck.choice("abcd")
            delay = luck.choice([0, 1, 2, 7, 30])
            before = wanted(book, floors)
            if before is None:
                self.fails(NoRun, {}, at_floors, book, floors)
                self.fails(NoRun, {}, spread, book, floors, moment, delay)
                continue
            self.same(at_floors(book, floors), [name for name in "abcd" if before[name] == floors[name]])
            behind = wanted(book, floors.with_time(moment, floors[moment] + delay))
            told = spread(book, floors, moment, delay)
            self.same(told, {name: behind[name] - before[name] for name in "abcd"})
            self.assertLessEqual(max(told.values()), delay)

    def test_spread(self):
        self.same(spread(SHOP, self.floors, "bus", 20), {"ann": 20, "bob": 11, "bus": 20, "shop": 20})
        self.same(spread(SHOP, self.floors, "bus", 9), {"ann": 9, "bob": 0, "bus": 9, "shop": 9})
        self.same(spread(SHOP, self.floors, "ann", 7), {"ann": 0, "bob": 0, "bus": 0, "shop": 0})
        one = {"ann": 1, "bob": 0, "bus": 0, "shop": 1}
        self.same(spread(delay=8, moment="ann", floors=self.floors, book=SHOP), one)
        self.same(spread(SHOP, self.floors, "ann", BIG), {"ann": BIG - 7, "bob": 0, "bus": 0, "shop": 13})
        for moment in SHOP.moments:
            self.same(spread(SHOP, self.floors, moment, 0), {"ann": 0, "bob": 0, "bus": 0, "shop": 0})

    def test_sequence_of_the_errors(self):
        for moment in NO_NAMES + ["zoe", "an"]:
            for delay in (1, -1, None):
                self.fails(UnknownMoment, {"value": moment}, spread, SHOP, self.floors, moment, delay)
                self.fails(UnknownMoment, {"value": moment}, spread, STUCK, zeros("ab"), moment, delay)
        for delay in NO_INTEGERS + [-1, LOW]:
            self.fails(InvalidCount, {"value": delay}, spread, SHOP, self.floors, "bus", delay)
            self.fails(InvalidCount, {"value": delay}, spread, STUCK, zeros("ab"), "a", delay)
        self.fails(NoRun, {}, spread, STUCK, zeros("ab"), "a", 0)
        self.fails(NoRun, {}, at_floors, STUCK, zeros("ab"))
        self.same(spread(SHOP, self.floors, "bus", 1), {"ann": 1, "bob": 0, "bus": 1, "shop": 1})

    def test_new_each_time(self):
        at_floors(SHOP, self.floors).clear()
        spread(SHOP, self.floors, "bus", 1).clear()
        self.same(at_floors(SHOP, self.floors), ["bob", "bus"])
        self.same(spread(SHOP, self.floors, "bus", 1), {"ann": 1, "bob": 0, "bus": 1, "shop": 1})
        self.same(self.floors, Run.of(shop=0, ann=0, bob=20, bus=2))
