"""Promise [42]: what shows that a run is the least one for floors."""

from anyofthese.books import Book
from anyofthese.earliest import Earliest
from anyofthese.errors import OtherMoments
from anyofthese.least import least_run
from anyofthese.rules import Rule
from anyofthese.runs import Run
from anyofthese.terms import Term
from anyofthese.whys import is_why, why
from tests.samples import BIG, LOW, NO_NAMES, ODD_VALUES, SHOP, Case
from tests.trials import chance, lifted_often, some_book, some_run, told_why, zeros

FLOORS = Run.of(shop=0, ann=0, bob=20, bus=2)
LEAST = Run.of(shop=7, ann=7, bob=20, bus=2)
WHY = [("bus", None), ("bob", None), ("ann", 1), ("shop", 0)]
STUCK = Book(["a", "b"], [Rule("a", Term("b") + 3), Rule("b", Term("a") - 2)])


class WhyTest(Case):
    def test_each_told_why_is_one(self):
        luck = chance(1)
        found = {True: 0, False: 0}
        for _ in range(400):
            names = "abcdef"[:luck.randint(1, 6)]
            book = some_book(luck, names, luck.randint(0, 10), luck.randint(1, 4), luck.choice([1, 3, 9]))
            floors = some_run(luck, names, 9)
            times = lifted_often(book, floors)
            told = why(book, floors)
            found[told is None] += 1
            if times is None:
                self.same(told, None)
                continue
            self.assertIs(told.__class__, list)
            for entry in told:
                self.assertIs(entry.__class__, tuple)
                self.assertIs(entry[0].__class__, str)
                self.assertIn(entry[1].__class__, (int, type(None)))
            self.assertTrue(told_why(book, floors, times, told))
            self.same(is_why(book, floors, Run(times), told), True)
            self.same(is_why(book, floors, Run(times), tuple(told)), True)
        self.assertGreater(min(found.values()), 60)

    def test_none_without_a_run(self):
        self.same(why(STUCK, zeros("ab")), None)
        self.same(why(Book(["a"], [Rule("a", Term("a") + 1)]), zeros("a")), None)

    def test_great_books(self):
        luck = chance(2)
        for _ in range(20):
            book = some_book(luck, "abcdefgh", 100, 8, BIG)
            floors = some_run(luck, "abcdefgh", BIG)
            least = least_run(book, floors)
            told = why(book, floors)
            self.assertEqual(told is None, least is None)
            if told is not None:
                self.assertTrue(told_why(book, floors, least.times(), told))
                self.same(is_why(book, floors, least, told), True)

    def test_without_rules_and_new_each_time(self):
        book = Book(["a", "b"])
        why(book, Run.of(a=3, b=4)).clear()
        told = why(floors=Run.of(a=3, b=4), book=book)
        self.same(sorted(told), [("a", None), ("b", None)])
        self.same(why(book, Run.of(a=3, b=4)), told)
        self.same(is_why(book, Run.of(a=3, b=4), Run.of(a=3, b=4), [("b", None), ("a", None)]), True)

    def test_ring_that_an_exit_holds(self):
        ring = Book(["a", "b", "c"], [Rule("a", Term("b") + 1 | Term("c")), Rule("b", Term("a") + 1 | Term("c"))])
        floors = Run.of(a=0, b=0, c=BIG)
        least = Run.of(a=BIG, b=BIG, c=BIG)
        for told in ([("c", None), ("a", 0), ("b", 1)], [("c", None), ("b", 1), ("a", 0)], why(ring, floors)):
            self.same(is_why(ring, floors, least, told), True)
        for told in ([("a", 0), ("c", None), ("b", 1)], [("a", 0), ("b", 1), ("c", None)]):
            self.same(is_why(ring, floors, least, told), False)

    def test_a_ring_that_holds_itself_is_no_why(self):
        ring = Book(["a", "b"], [Rule("a", Term("b") + 2), Rule("b", Term("a") - 2)])
        self.same(is_why(ring, zeros("ab"), Run.of(a=2, b=0), [("b", None), ("a", 0)]), True)
        for told in ([("a", 0), ("b", 1)], [("b", 1), ("a", 0)]):
            self.same(is_why(ring, zeros("ab"), Run.of(a=2, b=0), told), False)
            self.same(is_why(ring, zeros("ab"), Run.of(a=7, b=5), told), False)
        own = Book(["a"], [Rule("a", Term("a"))])
        self.same(is_why(own, zeros("a"), Run.of(a=3), [("a", 0)]), False)
        self.same(is_why(own, zeros("a"), zeros("a"), [("a", 0)]), False)
        self.same(is_why(own, zeros("a"), zeros("a"), [("a", None)]), True)

    def test_a_later_alternative_may_stand_anywhere(self):
        book = Book(["a", "b"], [Rule("a", Term("a") + 1 | Term("b"))])
        self.same(is_why(book, zeros("ab"), zeros("ab"), [("b", None), ("a", 0)]), True)
        self.same(is_why(book, zeros("ab"), zeros("ab"), [("a", 0), ("b", None)]), False)
        self.same(is_why(book, Run.of(a=0, b=5), Run.of(a=5, b=5), [("b", None), ("a", 0)]), True)
        self.same(is_why(book, Run.of(a=0, b=5), Run.of(a=5, b=5), [("a", None), ("b", None)]), False)


class IsWhyTest(Case):
    def told(self, value, floors=FLOORS, run=LEAST, book=SHOP):
        before = repr(value)
        found = is_why(book, floors, run, value)
        self.assertIs(found.__class__, bool)
        self.assertEqual(repr(value), before)
        return found

    def test_true(self):
        self.same(is_why(value=WHY, run=LEAST, floors=FLOORS, book=SHOP), True)
        self.same(self.told(tuple(WHY)), True)
        self.same(self.told([WHY[1], WHY[0], WHY[2], WHY[3]]), True)
        self.same(self.told([WHY[0], WHY[2], WHY[1], WHY[3]]), True)
        self.same(self.told([WHY[0], WHY[2], WHY[3], WHY[1]]), True)

    def test_sequence(self):
        for line in range(1, 4):
            self.same(self.told(WHY[line:] + WHY[:line]), False)
        self.same(self.told(WHY[::-1]), False)
        self.same(self.told([WHY[1], WHY[2], WHY[0], WHY[3]]), False)
        self.same(self.told([WHY[0], WHY[1], WHY[3], WHY[2]]), False)

    def test_left_out_doubled_and_unknown(self):
        for line in range(4):
            self.same(self.told(WHY[:line] + WHY[line + 1:]), False)
            self.same(self.told(WHY[:line] + WHY[line:line + 1] + WHY[line:]), False)
            self.same(self.told(WHY[:line] + WHY[line + 1:] + [WHY[line]]), line in (1, 3))
            for moment in NO_NAMES + ["zoe", "bu"]:
                self.same(self.told(WHY[:line] + [(moment, WHY[line][1])] + WHY[line + 1:]), False)
                self.same(self.told(WHY[:line] + [(moment, None)] + WHY[line:]), False)
        self.same(self.told([]), False)
        self.same(self.told([WHY[0], WHY[1], WHY[2], WHY[2]]), False)
        self.same(self.told([WHY[0], WHY[0], WHY[2], WHY[3]]), False)

    def test_positions(self):
        for line, (moment, position) in enumerate(WHY):
            for other in [0, 1, 2, 3, -1, -2, -3, BIG, LOW, "0", "1"] + ODD_VALUES:
                if other is None or other.__class__ is int:
                    right = other == position
                else:
                    right = False
                value = WHY[:line] + [(moment, other)] + WHY[line + 1:]
                self.same(self.told(value), right)

    def test_true_is_not_one_and_false_not_zero(self):
        self.same(self.told([WHY[0], WHY[1], ("ann", True), WHY[3]]), False)
        self.same(self.told([WHY[0], WHY[1], WHY[2], ("shop", False)]), False)

    def test_entries_are_tuples_of_two(self):
        for line in range(4):
            moment, position = WHY[line]
            for entry in [[moment, position], (moment,), (moment, position, position), moment, None, (), {},
                          {moment: position}, ((moment, position),), 5, (position, moment), "ab"] + ODD_VALUES:
                self.same(self.told(WHY[:line] + [entry] + WHY[line + 1:]), False)

    def test_values_of_every_other_kind(self):
        for value in ODD_VALUES + [5, "bus", dict(WHY), {"bus": None, "bob": None, "ann": 1, "shop": 0}, [WHY], LEAST]:
            self.same(self.told(value), False)
        for value in ODD_VALUES:
            self.same(self.told([value] * 4), False)

    def test_no_run_of_the_book_or_ahead_of_the_floors(self):
        self.same(self.told(WHY, run=LEAST.with_time("shop", 6)), False)
        self.same(self.told(WHY, run=LEAST.with_time("shop", 8)), False)
        self.same(self.told(WHY, run=LEAST + 1), False)
        self.same(self.told(WHY, floors=FLOORS.with_time("shop", 8)), False)
        self.same(self.told(WHY, floors=FLOORS.with_time("shop", 7)), True)
        self.same(self.told(WHY[:3] + [("shop", None)], floors=FLOORS.with_time("shop", 7)), True)
        self.same(self.told(WHY[:3] + [("shop", None)], floors=FLOORS.with_time("shop", 8)), False)
        free = Book(["a", "b"], [Rule("a", Term("b") + 1)])
        self.same(self.told([("a", None), ("b", None)], zeros("ab"), zeros("ab"), free), False)
        self.same(self.told([("a", 0), ("b", None)], zeros("ab"), zeros("ab"), free), False)
        self.same(self.told([("b", None), ("a", 0)], zeros("ab"), Run.of(a=1, b=0), free), True)
        # The rule of the second line holds the moment, but another rule is broken there.
        torn = Book(["a", "b"], [Rule("a", Term("b") + 1), Rule("a", Term("b") + 2)])
        self.same(self.told([("b", None), ("a", 0)], zeros("ab"), Run.of(a=1, b=0), torn), False)
        self.same(self.told([("b", None), ("a", 1)], zeros("ab"), Run.of(a=2, b=0), torn), True)
        self.same(self.told([("b", None), ("a", 0)], zeros("ab"), Run.of(a=2, b=0), torn), False)
        # Ahead of the floors, but held by a rule.
        self.same(self.told([("b", None), ("a", 0)], Run.of(a=5, b=0), Run.of(a=1, b=0), free), False)

    def test_only_for_the_least_run(self):
        luck = chance(3)
        runs = 0
        for _ in range(150):
            book = some_book(luck, "abc", 4)
            floors = some_run(luck, "abc", 4)
            told = why(book, floors)
            if told is None:
                continue
            least = least_run(book, floors)
            for _ in range(10):
                run = luck.choice([least + luck.randint(-1, 1), some_run(luck, "abc", 6)])
                runs += run == least
                value = [(moment, luck.choice([position, None, luck.randint(0, 3)])) for moment, position in told]
                luck.shuffle(value)
                times = run.times()
                right = run == least and told_why(book, floors, times, value)
                self.same(is_why(book, floors, run, value), right)
                self.same(is_why(book, floors, least, value), told_why(book, floors, least.times(), value))
        self.assertGreater(runs, 50)

    def test_changed_by_chance(self):
        luck = chance(4)
        found = {True: 0, False: 0}
        for _ in range(200):
            book = some_book(luck, "abcd", 7, 3, 2)
            floors = some_run(luck, "abcd", 2)
            told = why(book, floors)
            if told is None:
                continue
            times = lifted_often(book, floors)
            for _ in range(10):
                value = list(told)
                luck.shuffle(value)
                line = luck.randrange(4)
                if luck.random() < 0.5:
                    value[line] = (value[line][0], luck.choice([None] + list(range(7))))
                right = told_why(book, floors, times, value)
                found[right] += 1
                self.same(is_why(book, floors, Run(times), value), right)
        self.assertGreater(min(found.values()), 200)

    def test_other_moments(self):
        for wrong in (Run.of(ann=1), zeros(["ann", "bob", "bus", "shop", "zoe"]), zeros(["ann", "bob", "bus", "zoe"])):
            told = {"one": SHOP.moments, "other": wrong.moments}
            self.fails(OtherMoments, told, why, SHOP, wrong)
            self.fails(OtherMoments, told, is_why, SHOP, wrong, LEAST, WHY)
            self.fails(OtherMoments, told, is_why, SHOP, wrong, Run.of(zed=0), None)
            self.fails(OtherMoments, told, is_why, SHOP, FLOORS, wrong, WHY)
            self.fails(OtherMoments, told, is_why, SHOP, FLOORS, wrong, None)
        self.fails(OtherMoments, {"one": ("a", "b"), "other": ("a",)}, why, STUCK, Run.of(a=LOW))
        self.same(is_why(SHOP, FLOORS, LEAST, WHY), True)


class ExplainedByRuleTest(Case):
    def test_every_alternative_counts(self):
        book = Book(["a", "b", "c"], [Rule("a", Earliest.of(b=BIG, c=2))])
        floors = Run.of(a=0, b=-BIG + 1, c=0)
        self.same(least_run(book, floors), Run.of(a=1, b=-BIG + 1, c=0))
        least = least_run(book, floors)
        self.same(is_why(book, floors, least, [("b", None), ("a", 0), ("c", None)]), True)
        self.same(is_why(book, floors, least, [("c", None), ("a", 0), ("b", None)]), False)
        both = Run.of(a=2, b=-BIG + 2, c=0)
        self.same(is_why(book, both.with_time("a", 0), both, [("b", None), ("a", 0), ("c", None)]), False)
        self.same(is_why(book, both.with_time("a", 0), both, [("c", None), ("a", 0), ("b", None)]), False)
        self.same(is_why(book, both.with_time("a", 0), both, [("c", None), ("b", None), ("a", 0)]), True)
