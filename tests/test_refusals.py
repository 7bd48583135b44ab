"""Promise [51]: what shows that a book has no run."""

from anyofthese.books import Book
from anyofthese.earliest import Earliest
from anyofthese.kept import keeps
from anyofthese.least import least_run
from anyofthese.refusals import has_run, is_refusal, refusal
from anyofthese.rules import Rule
from anyofthese.runs import Run
from anyofthese.terms import Term
from tests.samples import BIG, EIGHT, LOW, NO_NAMES, ODD_VALUES, Case
from tests.trials import chance, lifted_often, some_book, some_rule, told_refusal, zeros

STUCK = Book(["a", "b"], [Rule("a", Term("b") + 3), Rule("b", Term("a") - 2), Rule("b", Term("a") - 4)])
TOLD = {"a": (0, 5), "b": (1, 0)}
RING = Book(["a", "b", "c", "d"], [
    Rule("a", Term("b") + 4 | Term("c") + 1), Rule("b", Term("c") - 1 | Term("a") - 2),
    Rule("c", Term("a") + 0), Rule("d", Term("a") - BIG), Rule("c", Term("b") + 2 | Term("a") + 1),
])


class RefusalTest(Case):
    def both(self, book):
        """Exactly one of a run and a refusal, and what is told is right; whether there is a run."""
        least = least_run(book, zeros(book.moments))
        told = refusal(book)
        self.same(has_run(book), told is None)
        self.assertEqual(least is None, told is not None)
        if told is None:
            self.assertTrue(keeps(book, least))
            return True
        self.assertTrue(told_refusal(book.moments, book.rules(), told), (book, told))
        for moment, line in told.items():
            self.assertIs(line.__class__, tuple)
            self.assertEqual([moment.__class__] + [part.__class__ for part in line], [str, int, int])
        self.same(is_refusal(book, told), True)
        self.same(refusal(book), told)
        return False

    def test_small_books_by_chance(self):
        luck = chance(1)
        found = {True: 0, False: 0}
        for _ in range(500):
            names = "abcdef"[:luck.randint(1, 6)]
            book = some_book(luck, names, luck.randint(0, 12), luck.randint(1, 4), luck.choice([1, 3, 9]))
            runs = self.both(book)
            found[runs] += 1
            self.assertEqual(runs, lifted_often(book, zeros(names)) is not None)
        self.assertGreater(min(found.values()), 100)

    def test_great_books_by_chance(self):
        luck = chance(2)
        found = {True: 0, False: 0}
        for rules, most, size in ((30, 8, 10 ** 50), (30, 3, 10 ** 50), (20, 2, 10 ** 50), (14, 2, 3), (100, 8, BIG)):
            for _ in range(40):
                found[self.both(some_book(luck, EIGHT, rules, most, size))] += 1
        self.assertGreater(min(found.values()), 15)

    def test_just_not_and_just_so(self):
        # Along the ring of eight the shifts add up to the last one.
        luck = chance(3)
        for last in (-1, 0, 1):
            for _ in range(20):
                shifts = [luck.randint(LOW, BIG) for _ in range(7)]
                rules = [Rule(EIGHT[k], Term(EIGHT[k + 1], shifts[k])) for k in range(7)]
                rules.append(Rule("h", Term("a", last - sum(shifts))))
                more = [some_rule(luck, EIGHT, 1, 5) - BIG * 20 for _ in range(10)]
                book = Book(EIGHT, rules[:3] + more + rules[3:])
                self.assertEqual(self.both(book), last <= 0)
                if last == 1:
                    self.assertEqual(list(refusal(book)), EIGHT)

    def test_a_rule_that_is_never_kept_is_one_by_itself(self):
        for shift in (1, BIG):
            book = Book(["a", "b"], [Rule("a", Term("b")), Rule("b", Term("b") + shift)])
            self.same(has_run(book), False)
            for number in (0, BIG, LOW):
                self.same(is_refusal(book, {"b": (1, number)}), True)
                self.same(is_refusal(book, {"b": (0, number)}), False)
                self.same(is_refusal(book, {"a": (1, number)}), False)
            self.both(book)
        for shift in (0, -1, LOW):
            book = Book(["a"], [Rule("a", Term("a") + shift)])
            self.same([has_run(book), refusal(book), is_refusal(book, {"a": (0, 0)})], [True, None, False])

    def test_without_rules(self):
        for moments in (["a"], ["a", "b"], EIGHT):
            book = Book(moments)
            self.same([has_run(book), refusal(book), is_refusal(book, {})], [True, None, False])

    def test_by_name_new_each_time_and_repeated(self):
        self.same(has_run(book=STUCK), False)
        told = refusal(book=STUCK)
        self.same(is_refusal(value=told, book=STUCK), True)
        kept = dict(told)
        told.clear()
        self.same(refusal(STUCK), kept)
        self.same(is_refusal(STUCK, kept), True)

    def test_other_books_out_of_one_that_was_asked(self):
        luck = chance(4)
        for _ in range(60):
            book = some_book(luck, "abcd", 6, 2, 2)
            more = some_rule(luck, "abcd", 2, 3)
            for made in (book, book.with_rules(more), book.without(0), book & Book(["e"]),
                         book.renamed({"a": "b", "b": "c", "c": "d", "d": "a"}), book):
                self.assertEqual(self.both(made), lifted_often(made, zeros(made.moments)) is not None)


class IsRefusalTest(Case):
    def told(self, value, book=STUCK):
        before = repr(value)
        found = is_refusal(book, value)
        self.assertIs(found.__class__, bool)
        self.assertEqual(repr(value), before)
        return found

    def test_numbers(self):
        # 2 * 3 + number of b is at least number of a + 1, and 2 * -2 + number of a at least number of b + 1.
        for gap in range(-3, 12):
            for number in (0, 7, BIG, LOW):
                self.same(self.told({"a": (0, number + gap), "b": (1, number)}), gap == 5)
        self.same(self.told({"b": (1, 0), "a": (0, 5)}), True)
        self.same(self.told({"a": (0, 0), "b": (1, 0)}), False)
        wide = STUCK.without(0).with_rules(Rule("a", Term("b") + 4))
        for gap in range(0, 12):
            self.same(self.told({"a": (2, gap), "b": (0, 0)}, wide), 5 <= gap <= 7)

    def test_how_many_moments_counts(self):
        # With three moments the ring of a and b suffices no less, with one rule more.
        book = Book(["a", "b", "c"], [Rule("a", Term("b") + 3), Rule("b", Term("a") - 2), Rule("c", Term("a") - 7)])
        for gap in range(4, 12):
            self.same(self.told({"a": (0, gap), "b": (1, 0)}, book), gap == 5)
            for down in range(-20, 0):
                right = 3 * 3 >= gap + 1 and 3 * -2 + gap >= 1 and 3 * -7 + gap >= down + 1
                self.same(self.told({"a": (0, gap), "b": (1, 0), "c": (2, down)}, book), right)

    def test_positions(self):
        for other in [0, 1, 2, 3, -1, -2, -3, BIG, LOW, "0"] + ODD_VALUES:
            right_a = other.__class__ is int and other == 0
            self.same(self.told({"a": (other, 5), "b": (1, 0)}), right_a)
            right_b = other.__class__ is int and other == 1
            self.same(self.told({"a": (0, 5), "b": (other, 0)}), right_b)

    def test_true_is_not_one(self):
        self.same(self.told({"a": (False, 5), "b": (1, 0)}), False)
        self.same(self.told({"a": (0, 5), "b": (True, 0)}), False)
        self.same(self.told({"a": (0, 5), "b": (1, False)}), False)
        self.same(self.told({"a": (0, 6), "b": (1, True)}), False)
        self.same(self.told({"a": (0, True), "b": (1, -4)}), False)
        self.same(self.told({"a": (0, 6), "b": (1, 1)}), True)
        self.same(self.told({"a": (0, 1), "b": (1, -4)}), True)

    def test_numbers_of_every_other_kind(self):
        for wrong in ODD_VALUES + ["5", "0"]:
            self.same(self.told({"a": (0, wrong), "b": (1, 0)}), False)
            self.same(self.told({"a": (0, 5), "b": (1, wrong)}), False)

    def test_lines_are_tuples_of_two(self):
        for wrong in ODD_VALUES + [[0, 5], (0,), (0, 5, 0), 0, 5, "05", {0: 5}, ((0, 5),), (5, 0)]:
            self.same(self.told({"a": wrong, "b": (1, 0)}), False)
        for wrong in [[1, 0], (1,), (1, 0, 0), (1, 0, None), {1: 0}]:
            self.same(self.told({"a": (0, 5), "b": wrong}), False)

    def test_moments_less_and_more(self):
        self.same(self.told({"a": (0, 5)}), False)
        self.same(self.told({"b": (1, 0)}), False)
        self.same(self.told({}), False)
        for key in [key for key in NO_NAMES + ["zoe", "c"] if not isinstance(key, (list, dict))
                    and getattr(key, "__hash__", None) is not None]:
            self.same(self.told({"a": (0, 5), "b": (1, 0), key: (1, 0)}), False)
            self.same(self.told({"a": (0, 5), key: (1, 0)}), False)
            self.same(self.told({key: (0, 0)}), False)
        with_c = STUCK & Book(["c"])
        self.same(self.told(TOLD, with_c), True)
        self.same(self.told({**TOLD, "c": (1, 0)}, with_c), False)
        self.same(self.told({**TOLD, "c": (None, 0)}, with_c), False)

    def test_values_of_every_other_kind(self):
        for value in ODD_VALUES + [5, "a", list(TOLD.items()), tuple(TOLD.items()), [TOLD], Run.of(a=5, b=0), STUCK]:
            self.same(self.told(value), False)

    def test_every_alternative_counts(self):
        for shift, right in ((-1, False), (0, True), (1, True), (BIG, True)):
            book = Book(["a", "b"], [Rule("a", Earliest.of(a=1, b=shift)), Rule("b", Term("a") + 1)])
            self.same(self.told({"a": (0, 0), "b": (1, 1)}, book), right)
        self.same(self.told({"a": (0, 5), "b": (1, 0)}, RING), False)

    def test_ring_with_alternatives(self):
        self.same(has_run(RING), False)
        told = refusal(RING)
        self.same(is_refusal(RING, told), True)
        self.assertNotIn("d", told)
        for moment, (position, number) in told.items():
            self.same(self.told({**told, moment: [position, number]}, RING), False)
            self.same(self.told({key: told[key] for key in told if key != moment}, RING), False)

    def test_all_moved_alike(self):
        luck = chance(5)
        for _ in range(100):
            book = some_book(luck, "abcd", 8, 2, 3)
            told = refusal(book)
            if told is not None:
                for number in (1, -1, BIG, LOW):
                    moved = {moment: (told[moment][0], told[moment][1] + number) for moment in told}
                    self.same(self.told(moved, book), True)

    def test_changed_by_chance(self):
        luck = chance(6)
        found = {True: 0, False: 0}
        for _ in range(200):
            book = some_book(luck, "abcd", 8, 2, 3)
            told = refusal(book)
            if told is None:
                self.same(self.told({"a": (0, 0)}, book), False)
                continue
            for _ in range(12):
                value = dict(told)
                moment = luck.choice(sorted(value))
                position, number = value[moment]
                if luck.random() < 0.3:
                    position = luck.randrange(8)
                value[moment] = (position, number + luck.choice([-1, 1, 2, -2, 0]))
                right = told_refusal(book.moments, book.rules(), value)
                found[right] += 1
                self.same(self.told(value, book), right)
        self.assertGreater(min(found.values()), 100)

    def test_books_with_a_run_have_none(self):
        luck = chance(7)
        for _ in range(100):
            book = some_book(luck, "abc", 4, 2, 2)
            if has_run(book):
                for _ in range(10):
                    names = luck.sample("abc", luck.randint(1, 3))
                    value = {name: (luck.randrange(4), luck.randint(-6, 6)) for name in names}
                    self.same(self.told(value, book), False)
