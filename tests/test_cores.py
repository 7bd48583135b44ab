"""Promise [52]: which rules alone leave a book without a run."""

import itertools

from anyofthese.books import Book
from anyofthese.cores import all_cores, core, is_core
from anyofthese.drafts import Draft
from anyofthese.errors import TooMany
from anyofthese.refusals import has_run
from anyofthese.rules import Rule
from anyofthese.runs import Run
from anyofthese.terms import Term
from tests.samples import BIG, EIGHT, LOW, ODD_VALUES, Case
from tests.trials import chance, great_book, has_run_by_lifting, some_book, some_rule

STUCK = Book(["a", "b"], [Rule("a", Term("b") + 3), Rule("b", Term("a") - 2), Rule("b", Term("a") - 4)])
FREE = Book(["a", "b"], [Rule("a", Term("b") + 3), Rule("b", Term("a") - 3)])


def alone(book, positions):
    return Book(book.moments, [book[position] for position in positions])


def looked_at(book, positions):
    """Whether these are a core, by has_run of the book of these rules alone and of these less one."""
    if has_run(alone(book, positions)):
        return False
    return all(has_run(alone(book, positions[:k] + positions[k + 1:])) for k in range(len(positions)))


def tried_out(book):
    """All cores, by trying all sets of rules with runs that are found by lifting."""
    many = len(book)
    sets = [kept for size in range(many + 1) for kept in itertools.combinations(range(many), size)]
    runs = {kept: has_run_by_lifting(book.moments, alone(book, kept).rules()) for kept in sets}
    return sorted(
        kept for kept in sets
        if not runs[kept] and all(runs[kept[:k] + kept[k + 1:]] for k in range(len(kept)))
    )


class CoreTest(Case):
    def right(self, book):
        told = core(book)
        self.assertEqual(told is None, has_run(book))
        if told is not None:
            self.assertIs(told.__class__, tuple)
            self.assertTrue(all(position.__class__ is int for position in told))
            self.assertEqual(list(told), sorted(set(told)))
            self.assertTrue(looked_at(book, told))
            self.same(is_core(book, told), True)
            self.same(core(book), told)
        return told

    def test_small_books_by_chance(self):
        luck = chance(1)
        found = {True: 0, False: 0}
        several = 0
        for _ in range(100):
            names = "abcd"[:luck.randint(1, 4)]
            book = some_book(luck, names, luck.randint(0, 7), 2, 2)
            told = self.right(book)
            wanted = tried_out(book)
            self.same(all_cores(book), wanted)
            self.assertEqual(told is None, wanted == [])
            if told is not None:
                self.assertIn(told, wanted)
            for size in range(4):
                for kept in itertools.combinations(range(len(book)), size):
                    self.same(is_core(book, kept), kept in wanted)
            found[told is None] += 1
            several += len(wanted) > 1
        self.assertGreater(min(found.values()), 20)
        self.assertGreater(several, 10)

    def test_a_planted_ring(self):
        luck = chance(2)
        for many in range(1, 9):
            for _ in range(5):
                names = luck.sample(EIGHT, many)
                shifts = [luck.randint(LOW, BIG) for _ in range(many - 1)]
                ring = [Rule(names[k], Term(names[(k + 1) % many], shift)) for k, shift in enumerate(shifts)]
                ring.append(Rule(names[-1], Term(names[0], luck.randint(1, 5) - sum(shifts))))
                rules = [some_rule(luck, EIGHT, 3, 5) - BIG * 100 for _ in range(30)]
                places = sorted(luck.sample(range(30 + many), many))
                for place, rule in zip(places, ring):
                    rules.insert(place, rule)
                book = Book(EIGHT, rules)
                self.same(self.right(book), tuple(places))

    def test_great_books(self):
        luck = chance(3)
        for _ in range(10):
            book = great_book(luck, 97)
            self.same(core(book), None)
            stuck = book.with_rules(*[some_rule(luck, EIGHT, 2, BIG) + BIG for _ in range(3)])
            self.right(stuck)
        for _ in range(20):
            self.right(some_book(luck, EIGHT, 100, 3, BIG))

    def test_never_kept(self):
        book = Book(["a", "b"], [Rule("a", Term("b")), Rule("b", Term("b") + 1), Rule("a", Term("a") + BIG)])
        self.same(all_cores(book), [(1,), (2,)])
        self.assertIn(core(book), [(1,), (2,)])
        self.same(core(book.without(2)), (1,))

    def test_rules_raised_renamed_behind_and_ahead(self):
        luck = chance(4)
        for _ in range(40):
            book = some_book(luck, "abc", 6, 2, 2)
            names = {"a": "c", "b": "a", "c": "b"}
            cores = all_cores(book)
            self.same(all_cores(book.renamed(names)), cores)
            always = Book(["a", "b", "c"], [Rule("a", Term("a")), Rule("b", Term("b") - 1 | Term("a"))])
            self.same(all_cores(book & always), cores)
            self.same(all_cores(always & book), [tuple(position + 2 for position in told) for told in cores])
            raised = Book(["a", "b", "c"], [rule + 1 for rule in book.rules()])
            self.same(all_cores(raised), tried_out(raised))
            if cores:
                self.assertIsNotNone(core(raised))

    def test_a_draft_that_is_changed(self):
        luck = chance(5)
        draft = Draft(some_book(luck, "abc", 3, 2, 2))
        for step in range(10):
            if step % 3 == 2:
                draft.drop(luck.randrange(len(draft)))
            else:
                draft.add(some_rule(luck, "abc", 2, 2))
            self.same(all_cores(draft.book), tried_out(draft.book))
            self.right(draft.book)

    def test_by_name_new_each_time_and_repeated(self):
        self.same(core(book=STUCK), (0, 1))
        self.same(is_core(value=(0, 1), book=STUCK), True)
        told = all_cores(book=STUCK)
        told.clear()
        self.same(all_cores(STUCK), [(0, 1)])
        self.same([core(FREE), all_cores(FREE), core(Book(["a"])), all_cores(Book(["a"]))], [None, [], None, []])

    def test_too_many_rules(self):
        eight = Book(["a", "b"], [Rule("a", Term("b") + 1), Rule("b", Term("a"))] * 4)
        wanted = [(one, other) for one in range(8) for other in range(one + 1, 8) if (one + other) % 2]
        self.same(all_cores(eight), wanted)
        told = {"what": "rules", "limit": 8}
        self.fails(TooMany, told, all_cores, eight.with_rules(Rule("a", Term("b"))))
        self.fails(TooMany, told, all_cores, Book(["a"], [Rule("a", Term("a"))] * 9))
        self.fails(TooMany, told, all_cores, Book(["a"], [Rule("a", Term("a") + 1)] * 100))
        self.same(all_cores(Book(["a"], [Rule("a", Term("a"))] * 8)), [])


class IsCoreTest(Case):
    def told(self, value, book=STUCK):
        before = repr(value)
        found = is_core(book, value)
        self.assertIs(found.__class__, bool)
        self.assertEqual(repr(value), before)
        return found

    def test_positions(self):
        self.same(self.told((0, 1)), True)
        for value in ((), (0,), (1,), (2,), (0, 2), (1, 2), (0, 1, 2)):
            self.same(self.told(value), False)

    def test_not_ascending_or_twice(self):
        for value in ((1, 0), (0, 0), (0, 0, 1), (0, 1, 1), (1, 1), (0, 1, 0)):
            self.same(self.told(value), False)
        never = Book(["a"], [Rule("a", Term("a") + 1)] * 2)
        self.same([self.told((0,), never), self.told((1,), never)], [True, True])
        for value in ((0, 0), (1, 1), (0, 1), (1, 0)):
            self.same(self.told(value, never), False)

    def test_only_a_tuple(self):
        for value in ([0, 1], {0: 0, 1: 1}, "01", [(0, 1)], ((0, 1),), range(2)):
            self.same(self.told(value), False)

    def test_no_positions(self):
        for wrong in ODD_VALUES + [-1, -2, -3, 3, BIG, LOW, "0", "1", [1], (1,)]:
            for value in ((0, wrong), (wrong, 1), (0, 1, wrong), (wrong,)):
                self.same(self.told(value), False)
        self.same(self.told((False, True)), False)
        self.same(self.told((0, True)), False)
        self.same(self.told((False, 1)), False)

    def test_values_of_every_other_kind(self):
        for value in ODD_VALUES + [0, 1, 5, "a", Run.of(a=0), STUCK, {0, 1}, frozenset([0, 1])]:
            self.same(self.told(value), False)
            self.same(self.told(value, FREE), False)

    def test_books_with_a_run(self):
        for value in ((), (0,), (1,), (0, 1)):
            self.same(self.told(value, FREE), False)

    def test_all_of_a_great_book(self):
        book = Book(EIGHT, [Rule("a", Term("b") + 1)] * 99 + [Rule("b", Term("a"))])
        self.same(self.told(tuple(range(100)), book), False)
        self.same(self.told((98, 99), book), True)
        self.same(self.told((0, 98, 99), book), False)
        self.same(self.told((99,), book), False)
