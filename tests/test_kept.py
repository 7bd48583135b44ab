"""Promises [31] to [33] of books and runs: slacks, ways, choices, and all runs in a box."""

import itertools

from anyofthese.books import Book, first_broken, is_run
from anyofthese.earliest import Earliest
from anyofthese.errors import InvalidChoice, InvalidCount, OtherMoments, TooMany
from anyofthese.kept import keeps, keeps_choice, plain, runs_within, slacks, ways
from anyofthese.rules import Rule
from anyofthese.runs import Run
from anyofthese.terms import Term
from tests.samples import BIG, LOW, NO_INTEGERS, ODD_VALUES, SHOP, Case
from tests.trials import are_kept, box, chance, is_kept, some_book, some_run, value, zeros


class KeptTest(Case):
    def test_beside_first_broken_and_is_run(self):
        luck = chance(1)
        for _ in range(300):
            book = some_book(luck, "abc", luck.randint(0, 4))
            run = some_run(luck, "abc", 4)
            times = run.times()
            self.same(keeps(book, run), is_run(book, times))
            self.same(keeps(book, run), first_broken(book, times) is None)
            self.same(keeps(book, run), are_kept(book, times))
            self.same(slacks(book, run), [rule.slack(times) for rule in book.rules()])
            self.same(slacks(book, run), [times[rule.moment] - value(rule, times) for rule in book.rules()])

    def test_shifted(self):
        luck = chance(2)
        for number in (-1, 1, BIG, LOW):
            book = some_book(luck, "abcd", 6)
            run = some_run(luck, "abcd", 5)
            self.same(slacks(book, run + number), slacks(book, run))
            self.same(ways(book, run + number), ways(book, run))
            self.same(keeps(book, run + number), keeps(book, run))

    def test_ways(self):
        luck = chance(3)
        for _ in range(200):
            book = some_book(luck, "abcd", 4, 4)
            run = some_run(luck, "abcd", 3)
            found = ways(book, run)
            for rule, by, slack in zip(book.rules(), found, slacks(book, run)):
                self.assertEqual(by != [], slack >= 0)
                shifts = rule.earliest.shifts()
                self.same(by, [a for a in sorted(shifts) if run[rule.moment] >= run[a] + shifts[a]])
            self.assertEqual(keeps(book, run), [] not in found)

    def test_the_edge_of_a_way(self):
        book = Book(["a", "b", "c"], [Rule("a", Earliest.of(b=BIG, c=LOW, a=0))])
        self.same(ways(book, Run.of(a=BIG, b=0, c=BIG - LOW)), [["a", "b", "c"]])
        self.same(ways(book, Run.of(a=BIG, b=1, c=BIG - LOW + 1)), [["a"]])
        self.same(slacks(book, Run.of(a=BIG, b=0, c=BIG - LOW)), [0])
        self.same(slacks(book, Run.of(a=BIG, b=-4, c=BIG)), [-LOW])
        never = Book(["a"], [Rule("a", Term("a") + 1)])
        run = Run.of(a=7)
        self.same([keeps(never, run), slacks(never, run), ways(never, run)], [False, [-1], [[]]])

    def test_without_rules(self):
        book = Book(["a"])
        self.same([keeps(book, Run.of(a=3)), slacks(book, Run.of(a=3)), ways(book, Run.of(a=3))], [True, [], []])

    def test_the_earlier_one_of_two_runs_is_a_run(self):
        luck = chance(4)
        later = 0
        for _ in range(60):
            book = some_book(luck, "abc", 3)
            runs = [Run(times) for times in box("abc", -2, 2) if are_kept(book, times)]
            pairs = [(luck.choice(runs), luck.choice(runs)) for _ in range(20)] if runs else []
            for one, other in pairs:
                self.assertTrue(keeps(book, one & other))
                later += not keeps(book, one | other)
        self.assertGreater(later, 0)

    def test_other_moments(self):
        for run in (Run.of(ann=1), Run.of(ann=1, bob=2, bus=3, shop=4, zoe=5), Run.of(ann=1, bob=2, bus=3, zoe=4)):
            told = {"one": SHOP.moments, "other": run.moments}
            for call in (keeps, slacks, ways):
                self.fails(OtherMoments, told, call, SHOP, run)
                self.fails(OtherMoments, told, call, book=SHOP, run=run)
            for choice in (["ann", "bus", "bus"], None, ["ann"], ["zoe", "bus", "bus"]):
                self.fails(OtherMoments, told, keeps_choice, SHOP, run, choice)
        self.assertTrue(keeps(SHOP, Run.of(shop=7, ann=7, bob=20, bus=2)))

    def test_by_name_new_each_time_and_repeated(self):
        run = Run.of(shop=7, ann=7, bob=20, bus=2)
        self.same(keeps(run=run, book=SHOP), True)
        self.same(slacks(run=run, book=SHOP), [0, 0, 9])
        self.same(ways(run=run, book=SHOP), [["ann"], ["bus"], ["bus"]])
        found = ways(SHOP, run)
        found[0].append("bob")
        found.pop()
        slacks(SHOP, run).clear()
        self.same(ways(SHOP, run), [["ann"], ["bus"], ["bus"]])
        self.same(slacks(SHOP, run), [0, 0, 9])
        self.same(run, Run.of(shop=7, ann=7, bob=20, bus=2))


class ChoiceTest(Case):
    seven = Run.of(shop=7, ann=7, bob=20, bus=2)

    def test_keeps_choice(self):
        for kind in (list, tuple):
            self.same(keeps_choice(SHOP, self.seven, kind(["ann", "bus", "bus"])), True)
            self.same(keeps_choice(SHOP, self.seven, kind(["bob", "bus", "bus"])), False)
        self.same(keeps_choice(choice=["ann", "bus", "bus"], run=self.seven - 3, book=SHOP), True)
        self.same(keeps_choice(SHOP, self.seven.with_time("ann", 8), ["ann", "bus", "bus"]), False)

    def test_plain(self):
        for kind in (list, tuple):
            self.same(
                plain(SHOP, kind(["bob", "bus", "bus"])),
                Book(SHOP.moments, [Rule("shop", Term("bob")), Rule("ann", Term("bus") + 5), SHOP[2]]),
            )
        self.same(
            plain(choice=["a", "c"], book=Book(["a", "b", "c"], [
                Rule("a", Earliest.of(a=BIG, b=1)), Rule("b", Earliest.of(c=LOW, b=0)),
            ])),
            Book(["a", "b", "c"], [Rule("a", Term("a", BIG)), Rule("b", Term("c", LOW))]),
        )

    def test_the_greatest_book(self):
        names = "abcdefgh"
        book = Book(list(names), [Rule(names[k % 8], Earliest({name: k for name in names})) for k in range(100)])
        choice = [names[k * k % 8] for k in range(100)]
        self.same(plain(book, choice).rules(), [Rule(names[k % 8], Term(choice[k], k)) for k in range(100)])
        self.same(keeps_choice(book, zeros(names), choice), False)

    def test_without_rules(self):
        book = Book(["a", "b"])
        for choice in ([], ()):
            self.same(keeps_choice(book, Run.of(a=1, b=2), choice), True)
            self.same(plain(book, choice), book)
        for choice in (["a"], None, {}, "", 0):
            self.fails(InvalidChoice, {"position": None}, plain, book, choice)

    def test_no_list_or_not_one_element_for_each_rule(self):
        for choice in ODD_VALUES + [
            5, "abc", "", ["ann", "bus"], ["ann", "bus", "bus", "bus"], ("zoe",), {"ann": 0, "bus": 1, "shop": 2},
            {0: "ann", 1: "bus", 2: "bus"}, [1, 2, 3, 4],
        ]:
            self.fails(InvalidChoice, {"position": None}, plain, SHOP, choice)
            self.fails(InvalidChoice, {"position": None}, keeps_choice, SHOP, self.seven, choice)

    def test_no_alternative_of_the_rule(self):
        for wrong in ODD_VALUES + ["shop", "zoe", "", "ANN", "ann ", 0, 1, ["ann"], {"ann": 0}, {"bus": 1}]:
            for choice, position in (
                ([wrong, "bus", "bus"], 0), (["ann", wrong, "bus"], 1), (("bob", "bus", wrong), 2),
                (("bob", wrong, wrong), 1), ([wrong, "bus", wrong], 0),
            ):
                self.fails(InvalidChoice, {"position": position}, plain, SHOP, choice)
                self.fails(InvalidChoice, {"position": position}, keeps_choice, SHOP, self.seven, choice)
        self.fails(InvalidChoice, {"position": 1}, plain, SHOP, ["ann", "bob", "bus"])
        self.fails(InvalidChoice, {"position": 0}, plain, SHOP, ["bus", "bus", "bus"])
        self.assertEqual(len(plain(SHOP, ["ann", "bus", "bus"])), 3)

    def test_the_runs_are_those_of_all_plain_books(self):
        luck = chance(5)
        for _ in range(40):
            book = some_book(luck, "abc", luck.randint(0, 3), 3)
            choices = list(itertools.product(*[sorted(rule.earliest.shifts()) for rule in book.rules()]))
            for _ in range(40):
                run = some_run(luck, "abc", 4)
                by = [choice for choice in choices if keeps_choice(book, run, choice)]
                self.assertEqual(by != [], are_kept(book, run.times()))
                self.assertEqual(by, [choice for choice in choices if keeps(plain(book, choice), run)])
                expected = itertools.product(*ways(book, run))
                self.assertEqual(by, list(expected))

    def test_what_is_passed_stays(self):
        choice = ["ann", "bus", "bus"]
        made = plain(SHOP, choice)
        choice[0] = "bob"
        self.same(made, plain(SHOP, ["ann", "bus", "bus"]))
        self.same(SHOP[0], Rule("shop", Term("ann") | Term("bob")))


class RunsWithinTest(Case):
    def test_beside_a_trying_of_all_times(self):
        luck = chance(6)
        for _ in range(120):
            names = "abcd"[:luck.randint(1, 4)]
            book = some_book(luck, names, luck.randint(0, 4), 3, 2)
            floors = some_run(luck, names, 3)
            most = luck.randint(0, 3)
            wanted = [
                Run({name: floors[name] + delay[name] for name in delay}) for delay in box(names, 0, most)
                if are_kept(book, {name: floors[name] + delay[name] for name in delay})
            ]
            self.same(list(runs_within(book, floors, most)), wanted)
            rows = [[run[name] for name in run.moments] for run in wanted]
            self.assertEqual(rows, sorted(rows))

    def test_sixty_digits(self):
        book = Book(["b", "a"], [Rule("a", Term("b") + BIG), Rule("b", Term("a") - BIG - 1)])
        found = list(runs_within(book, Run.of(a=BIG + LOW, b=LOW), 2))
        gaps = [(0, 0), (1, 0), (1, 1), (2, 1), (2, 2)]
        self.same(found, [Run.of(a=BIG + LOW + one, b=LOW + other) for one, other in gaps])

    def test_most_zero(self):
        book = Book(["a", "b"], [Rule("a", Term("b") + 1)])
        self.same(list(runs_within(book, Run.of(a=1, b=0), 0)), [Run.of(a=1, b=0)])
        self.same(list(runs_within(book, Run.of(a=0, b=0), 0)), [])

    def test_by_name_and_as_a_generator(self):
        book = Book(["a", "b"], [Rule("a", Term("b"))])
        one = runs_within(most=1, floors=Run.of(a=0, b=0), book=book)
        self.assertIs(iter(one), one)
        other = runs_within(book, Run.of(a=0, b=0), 1)
        self.same(next(one), Run.of(a=0, b=0))
        self.same(next(one), Run.of(a=1, b=0))
        self.same(next(other), Run.of(a=0, b=0))
        self.same(list(one), [Run.of(a=1, b=1)])
        self.same(list(one), [])
        other.close()
        self.same(len(list(runs_within(book, Run.of(a=0, b=0), 1))), 3)

    def test_limit(self):
        free = Book(["a"])
        runs = list(runs_within(free, Run.of(a=5), 19999))
        self.same([len(runs), runs[0], runs[-1]], [20000, Run.of(a=5), Run.of(a=20004)])
        two = Book(["a", "b"], [Rule("a", Term("a") + 1)])
        self.same(list(runs_within(two, Run.of(a=0, b=0), 140)), [])
        eight = Book(list("abcdefgh"), [Rule("a", Term(name) + 1) for name in "bcdefgh"])
        self.same(len(list(runs_within(eight, zeros("abcdefgh"), 2))), 1 + 2 ** 7)
        told = {"what": "times", "limit": 20000}
        for book, floors, most in (
            (free, Run.of(a=5), 20000), (free, Run.of(a=5), BIG), (two, Run.of(a=0, b=0), 141),
            (eight, zeros("abcdefgh"), 3), (eight, zeros("abcdefgh"), BIG),
        ):
            self.fails(TooMany, told, lambda: next(runs_within(book, floors, most)))

    def test_errors_come_when_the_iteration_begins(self):
        book = Book(["a", "b"])
        for most in NO_INTEGERS + [-1, LOW]:
            made = runs_within(book, Run.of(a=0, b=0), most)
            self.fails(InvalidCount, {"value": most}, next, made)
            made = runs_within(book, Run.of(a=0, c=0), most)
            self.fails(OtherMoments, {"one": ("a", "b"), "other": ("a", "c")}, next, made)
        made = runs_within(book, Run.of(a=0), 10 ** 9)
        self.fails(OtherMoments, {"one": ("a", "b"), "other": ("a",)}, list, made)
        self.same(next(runs_within(book, Run.of(a=0, b=0), 1)), Run.of(a=0, b=0))

    def test_each_found_keeps_all_rules(self):
        luck = chance(7)
        book = some_book(luck, "abcd", 5, 4, 2)
        for run in runs_within(book, some_run(luck, "abcd", 2), 3):
            self.assertTrue(all(is_kept(rule, run.times()) for rule in book.rules()))
