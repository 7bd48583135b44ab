"""Promise [4]: the guarantees, and what holds of the whole program, on books and plans by chance."""

from fractions import Fraction

from anyofthese.bars import ban, bar, licence
from anyofthese.books import Book
from anyofthese.desk import Desk
from anyofthese.follows import against, follows, reason
from anyofthese.forget import completed, forget
from anyofthese.judge import certificate, is_certificate, is_true
from anyofthese.kept import keeps
from anyofthese.least import least_run, lifted
from anyofthese.paces import is_timetable, kind, timetable
from anyofthese.plans import Plan, RoundRule
from anyofthese.refusals import has_run, refusal
from anyofthese.runs import Run
from anyofthese.texts import book_text, plan_text, read_book, read_plan
from tests.papers import near, told_ban, told_bar, told_licence
from tests.samples import BIG, EIGHT, LOW, Case
from tests.trials import (
    are_kept, box, chance, great_book, is_kept, some_book, some_plan, some_rule, some_run, told_refusal, zeros,
)


def books(luck, many):
    """Books of all sizes by chance, with small and great shifts, with and without a run."""
    for _ in range(many):
        names = EIGHT[:luck.randint(1, 8)]
        size = luck.choice((2, 5, BIG))
        yield some_book(luck, names, luck.randint(0, 12), luck.choice((1, 2, 8)), size)
        if luck.random() < 0.2:
            yield great_book(luck, luck.randint(1, 30), 3, size)


def plans(luck, many):
    """Plans of all sizes by chance."""
    for _ in range(many):
        names = EIGHT[:luck.randint(1, 8)]
        backs = luck.choice(((0, 0, 0, 1), (1, 2, 3, 4), (0, 1, 2, 3, 4)))
        yield some_plan(luck, names, luck.randint(0, 14), luck.choice((1, 2, 8)), luck.choice((2, 5, BIG)), backs)


class GuaranteeTest(Case):
    def test_either(self):
        found = {True: 0, False: 0}
        for book in books(chance(1), 150):
            run, paper = least_run(book, zeros(book.moments)), refusal(book)
            self.assertEqual(run is None, paper is not None)
            self.same(has_run(book), run is not None)
            if run is None:
                self.assertTrue(told_refusal(book.moments, book.rules(), paper))
            else:
                self.assertTrue(are_kept(book, run.times()))
            found[run is None] += 1
        self.assertGreater(min(found.values()), 30)

    def test_least(self):
        luck = chance(2)
        for book in books(luck, 100):
            if has_run(book):
                floors = some_run(luck, book.moments, 9)
                least = least_run(book, floors)
                self.assertTrue(floors.is_at_most(least) and keeps(book, least))
                for _ in range(5):
                    other = least_run(book, floors | some_run(luck, book.moments, luck.choice((20, BIG))))
                    self.assertTrue(least.is_at_most(other))
                self.same(least_run(book, least), least)
                self.same(lifted(book, least), least)

    def test_least_in_a_box(self):
        luck = chance(3)
        for _ in range(60):
            book = some_book(luck, "abc", luck.randint(0, 4), 2, 2)
            least = least_run(book, zeros("abc"))
            for times in box("abc", 0, 5):
                if are_kept(book, times):
                    self.assertTrue(least.is_at_most(Run(times)))

    def test_follows(self):
        luck = chance(4)
        found = {True: 0, False: 0}
        for book in books(luck, 150):
            rule = luck.choice(book.rules() + [some_rule(luck, book.moments, 3, 9)]) + luck.randint(-1, 1)
            told = follows(book, rule)
            if told:
                rules = book.rules() + rule.contrary()
                self.assertTrue(told_refusal(book.moments, rules, reason(book, rule)))
            else:
                run = against(book, rule)
                self.assertTrue(are_kept(book, run.times()) and not is_kept(rule, run.times()))
            found[told] += 1
        self.assertGreater(min(found.values()), 40)

    def test_forgotten(self):
        luck = chance(5)
        many = 0
        for book in books(luck, 200):
            if len(book.moments) > 1 and len(book) < 10:
                y = luck.choice(book.moments)
                left = forget(book, y)
                self.same(has_run(left), has_run(book))
                for _ in range(3):
                    floors = some_run(luck, book.moments, 9)
                    run = least_run(book, floors)
                    if run is not None:
                        many += 1
                        rest = run.only(left.moments)
                        self.assertTrue(are_kept(left, rest.times()))
                        self.assertTrue(are_kept(book, completed(book, y, rest).times()))
                        # With no floor of y that matters, the least runs of both are the same.
                        free = least_run(book, floors.with_time(y, -10 ** 70)).only(left.moments)
                        self.same(least_run(left, floors.only(left.moments)), free)
        self.assertGreater(many, 100)

    def test_pace(self):
        found = {"any": 0, "none": 0, "least": 0}
        for plan in plans(chance(6), 150):
            told = kind(plan)
            found[told[0]] += 1
            if told[0] == "least":
                run = timetable(plan, told[1])
                self.same(is_timetable(plan, told[1], run), True)
                self.same(timetable(plan, near(told[1], BIG, -1)), None)
                self.assertTrue(told_bar(plan, told[1], bar(plan, told[1])))
            self.same((ban(plan) is None, licence(plan) is None), (told != ("none",), told != ("any",)))
            if told == ("none",):
                self.assertTrue(told_ban(plan, ban(plan)))
            if told == ("any",):
                self.assertTrue(told_licence(plan, licence(plan)))
            for pace in ((LOW * 9, 1), (-2, 1), (0, 1), (1, 3), (BIG * 9, 1)):
                at_least = told[0] == "least" and Fraction(*pace) >= Fraction(*told[1])
                self.assertEqual(timetable(plan, pace) is not None, told == ("any",) or at_least)
        self.assertGreater(min(found.values()), 20)

    def test_checked(self):
        luck = chance(7)
        for book in books(luck, 60):
            floors = some_run(luck, book.moments, 9)
            rule = some_rule(luck, book.moments, 2, 9)
            a, b = luck.choice(book.moments), luck.choice(book.moments)
            least = least_run(book, floors) or floors
            claims = [
                ("runs", book), ("stuck", book), ("follows", book, rule), ("open", book, rule), ("loose", book, a, b),
                ("least", book, floors, least), ("gap", book, a, b, luck.randint(-9, 9)),
            ]
            self.checked(claims)
        for plan in plans(luck, 60):
            pace = kind(plan)[1] if kind(plan)[0] == "least" else (luck.randint(-9, 9), luck.randint(1, 9))
            self.checked([("paced", plan, pace), ("slowest", plan, pace), ("banned", plan), ("free", plan)])

    def checked(self, claims):
        """Papers of true claims are certificates, and none of them is one of a claim that is not true."""
        papers = [certificate(claim) for claim in claims]
        for claim, paper in zip(claims, papers):
            self.same(is_true(claim), paper is not None)
            for other in papers:
                if is_certificate(claim, other):
                    self.assertIsNotNone(paper)
            self.assertTrue(paper is None or is_certificate(claim, paper))


class WholeTest(Case):
    def test_texts_and_desks_tell_the_same(self):
        luck = chance(8)
        for book in books(luck, 60):
            self.same(read_book(book_text(book)), book)
            desk = Desk(Book(book.moments))
            self.same(desk.do_all(*book_text(book).split("\n")[1:-1]), ["done"] * len(book))
            self.same(desk.book, book)
            self.same(desk.do("runs"), "yes" if has_run(book) else "no")
        for plan in plans(luck, 60):
            self.same(read_plan(plan_text(plan)), plan)
            self.same(eval(repr(plan), {"Plan": Plan, "RoundRule": RoundRule}), plan)

    def test_repeated_calls_tell_the_same(self):
        luck = chance(9)
        for book in books(luck, 20):
            self.same([refusal(book), has_run(book)], [refusal(book), has_run(book)])
        for plan in plans(luck, 20):
            first = [kind(plan), bar(plan, (0, 1)), ban(plan), licence(plan), timetable(plan, (3, 2))]
            self.same([kind(plan), bar(plan, (0, 1)), ban(plan), licence(plan), timetable(plan, (3, 2))], first)
