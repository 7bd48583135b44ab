"""Promise [93]: desks and their commands."""

from anyofthese.alike import needless
from anyofthese.books import Book
from anyofthese.desk import Desk
from anyofthese.earliest import Earliest
from anyofthese.errors import (
    CommandFailed, InvalidCommand, LastOne, NothingToUndo, OtherMoments, TooMany,
)
from anyofthese.follows import follows
from anyofthese.forget import forget
from anyofthese.least import least_run
from anyofthese.refusals import has_run
from anyofthese.rules import Rule
from anyofthese.runs import Run
from anyofthese.spans import span
from anyofthese.terms import Term
from anyofthese.texts import book_text
from tests.samples import BIG, EIGHT, LOW, ODD_VALUES, SHOP, Case
from tests.trials import chance, great_book, some_book, some_rule, some_run

STUCK = Book(["a", "b"], [Rule("a", Term("b") + 3), Rule("b", Term("a") - 2), Rule("b", Term("a") - 4)])
FULL = Book(["a", "b", "y"], [Rule("b", Term("y") | Term("a"))] * 50 + [Rule("y", Term("a"))] * 50)
QUESTIONS = ["runs", "least ann=0 bob=20 bus=2 shop=0", "follows shop bus+5", "span bus shop", "needless", "book"]

# No commands of a desk with the book SHOP.
NO_COMMANDS = [
    "", " ", "  ", "\n", "run", "Runs", "RUNS", "runs ", " runs", "runs\n", "\nruns", "runs runs", "runs ann",
    "runs 1", "runs\t", "rule", "rule ", "rule ann", "rule ann ", "rule  ann bob", "rule ann  bob", " rule ann bob",
    "rule ann bob ", "Rule ann bob", "rule zoe ann", "rule ann zoe", "rule ann bob zoe", "rule Ann bob",
    "rule ann Bob", "rule ann+1 bob", "rule ann bob bob", "rule ann bob bob+1", "rule ann bob bus bob-3",
    "rule ann bob+0", "rule ann bob-0", "rule ann bob+03", "rule ann bob+", "rule ann bob-", "rule ann bob+-3",
    "rule ann bob@1", "rule ann bob+3@1", "rule ann bob,bus", "rule ann bob\n", "rule ann bob\nrule ann bob",
    "rule ann bob +3", "rule ann 3", "rule ann bob=3", "rule 0 ann", "rule shop ann ; rule ann bus", "drop", "drop ",
    "drop  0", "drop 0 ", " drop 0", "drop 3", "drop 4", "drop -1", "drop +0", "drop +1", "drop 00", "drop 01",
    "drop -0", "drop 0 1", "drop 0,1", "drop a", "drop ann", "drop 1.0", "drop 0\n", "drop 1_0", "Drop 0", "drop 0 0",
    "drop None", "drop 0x0", "drop O", "forget", "forget ", "forget zoe", "forget ann bob", "forget  ann",
    "forget ann ", "forget Ann", "forget ann\n", "forget 0", "undo ", " undo", "undo undo", "undo 1", "undo\n",
    "Undo", "undo ann", "least", "least ", "least ann=0", "least ann=0 bob=0 bus=0",
    "least ann=0 bob=0 bus=0 shop=0 zoe=0", "least ann=0 bob=0 bus=0 shop=0 shop=0", "least bob=0 ann=0 bus=0 shop=0",
    "least ann=0 bob=0 shop=0 bus=0", "least ann=0 bob=0 bus=0 zoe=0", "least ann=0 ann=0 bob=0 bus=0 shop=0",
    "least ann=0 bob=0 bus=0 shop=+5", "least ann=0 bob=0 bus=0 shop=00", "least ann=0 bob=0 bus=0 shop=-0",
    "least ann=0 bob=0 bus=0 shop=05", "least ann=0 bob=0 bus=0 shop=-05", "least ann=0 bob=0 bus=0 shop=",
    "least ann=0 bob=0 bus=0 shop", "least 0 0 0 0", "least ann=0 bob=0 bus=0 shop=--5",
    "least ann=0 bob=0 bus=0 shop==5", "least ann=0 bob=0 bus=0 shop=5=5", "least ann=0 bob=0 bus=0 shop=5 ",
    "least  ann=0 bob=0 bus=0 shop=5", "least ann=0  bob=0 bus=0 shop=5", "least ann= 0 bob=0 bus=0 shop=5",
    "least ann=0 bob=0 bus=0 shop=a", "least ann=0 bob=0 bus=0 shop=5\n", "least ann=0 bob=0 bus=0 shop=1.0",
    "least ann+0 bob+0 bus+0 shop+0", "least ann=0,bob=0,bus=0,shop=0", "least Ann=0 bob=0",
    "least =0 bob=0 bus=0 shop=0", "least ann=0 bob=0 bus=0 shop=-", "Least ann=0 bob=0 bus=0 shop=0", "follows",
    "follows ann", "follows ann ", "follows zoe ann", "follows ann zoe", "follows  ann bob", "follows ann bob bob",
    "follows ann bob+0", "follows ann bob+03", "follows ann bob@1", "follows ann bob ", "follow ann bob",
    "follows ann bob\n", "span", "span ann", "span ann ", "span ann zoe", "span zoe ann", "span ann bob bus",
    "span  ann bob", "span ann  bob", "span ann bob ", "span ann bob\n", "Span ann bob", "span ann+1 bob", "spans",
    "span 0 1", "needless ", " needless", "needless 0", "needless ann", "Needless", "needles", "needless\n", "book ",
    " book", "book 0", "Book", "books", "book\n", "book ann", "moments", "moments ann bob bus shop", "do runs",
    "none", "-",
    "drop " + "9" * 60,
]


def shown(desk):
    """What is to be seen of the desk as it is."""
    return desk.book, desk.undoable


class CommandTest(Case):
    def answers(self, book, command, wanted):
        """The answer, which changes nothing and cannot be taken back."""
        desk = Desk(book)
        self.same(desk.do(command), wanted)
        self.same(desk.do(command=command), wanted)
        self.same(shown(desk), (book, 0))

    def changes(self, book, command, wanted):
        """The Book that comes, and that it can be taken back."""
        desk = Desk(book)
        self.same(desk.do(command), "done")
        self.same(shown(desk), (wanted, 1))
        self.same(desk.do("undo"), "done")
        self.same(shown(desk), (book, 0))
        self.fails(NothingToUndo, {}, desk.do, "undo")

    def test_rule(self):
        luck = chance(1)
        for size in (3, BIG):
            for _ in range(60):
                book = some_book(luck, "abcd", luck.randint(0, 5), 3, size)
                rule = some_rule(luck, "abcd", 4, size)
                terms = str(rule.earliest).split(" ")
                luck.shuffle(terms)
                self.changes(book, " ".join(["rule", rule.moment, *terms]), book.with_rules(rule))
                self.changes(book, str(rule), book.with_rules(rule))
        self.changes(SHOP, "rule bus shop-5", SHOP.with_rules(Rule("bus", Term("shop") - 5)))
        self.changes(SHOP, "rule ann ann", SHOP.with_rules(Rule("ann", Term("ann"))))
        eight = Rule("a", Earliest(dict.fromkeys(EIGHT, 0)))
        self.changes(Book(EIGHT), "rule a h g f e d c b a", Book(EIGHT, [eight]))

    def test_drop(self):
        for position in range(3):
            self.changes(SHOP, f"drop {position}", SHOP.without(position))
        book = Book(["a"], [Rule("a", Term("a") - number) for number in range(100)])
        for position in (0, 1, 9, 10, 42, 99):
            self.changes(book, f"drop {position}", book.without(position))
        self.fails(InvalidCommand, {"value": "drop 100"}, Desk(book).do, "drop 100")
        self.fails(InvalidCommand, {"value": "drop 0"}, Desk(Book(["a"])).do, "drop 0")

    def test_forget(self):
        luck = chance(2)
        for moment in SHOP.moments:
            self.changes(SHOP, f"forget {moment}", forget(SHOP, moment))
        for _ in range(20):
            book = great_book(luck, 9, 3)
            self.changes(book, "forget d", forget(book, "d"))
        desk = Desk(SHOP)
        desk.do("forget bob")
        self.fails(InvalidCommand, {"value": "forget bob"}, desk.do, "forget bob")
        self.fails(InvalidCommand, {"value": "span bob bus"}, desk.do, "span bob bus")
        self.fails(InvalidCommand, {"value": "rule ann bob"}, desk.do, "rule ann bob")
        self.fails(InvalidCommand, {"value": QUESTIONS[1]}, desk.do, QUESTIONS[1])
        self.same(desk.do("least ann=0 bus=2 shop=0"), "ann=7 bus=2 shop=7")
        self.same(desk.do("drop 1"), "done")
        self.fails(InvalidCommand, {"value": "drop 1"}, desk.do, "drop 1")

    def test_runs(self):
        self.answers(SHOP, "runs", "yes")
        self.answers(STUCK, "runs", "no")

    def test_least(self):
        luck = chance(3)
        for size in (3, BIG):
            for _ in range(40):
                book = some_book(luck, "abcd", luck.randint(0, 7), 2, size)
                floors = some_run(luck, "abcd", size)
                run = least_run(book, floors)
                words = " ".join(f"{moment}={floors[moment]}" for moment in "abcd")
                wanted = "none" if run is None else " ".join(f"{moment}={run[moment]}" for moment in "abcd")
                self.answers(book, "least " + words, wanted)
        self.answers(SHOP, "least ann=0 bob=20 bus=2 shop=0", "ann=7 bob=20 bus=2 shop=7")
        self.answers(SHOP, "least ann=-5 bob=-20 bus=-9 shop=-5", "ann=-4 bob=0 bus=-9 shop=-4")
        self.answers(STUCK, "least a=0 b=0", "none")
        self.answers(Book(["a"]), f"least a={LOW}", f"a={LOW}")

    def test_follows(self):
        luck = chance(4)
        for _ in range(60):
            book = great_book(luck, 9, 2)
            rule = luck.choice([some_rule(luck, EIGHT, 3, BIG), luck.choice(book.rules()) - luck.randint(-1, 1)])
            terms = str(rule.earliest).split(" ")[::-1]
            command = " ".join(["follows", rule.moment, *terms])
            self.answers(book, command, "yes" if follows(book, rule) else "no")
        self.answers(SHOP, "follows shop bus+5", "yes")
        self.answers(SHOP, "follows shop bus+6", "no")
        self.answers(STUCK, "follows a b+9", "yes")

    def test_span(self):
        luck = chance(5)
        for _ in range(40):
            book = great_book(luck, 6, 2)
            a, b = luck.choice(EIGHT), luck.choice(EIGHT)
            low, high = span(book, a, b)
            wanted = f"{'-' if low is None else low} {'-' if high is None else high}"
            self.answers(book, f"span {a} {b}", wanted)
        for command, wanted in (("span shop bus", "5 -"), ("span bus shop", "- -5"), ("span ann bob", "- -"),
                                ("span ann ann", "0 0")):
            self.answers(SHOP, command, wanted)
        self.answers(SHOP.with_rules(Rule("bus", Term("shop") - 5)), "span bus shop", "-5 -5")
        for command in ("span a b", "span b a", "span a a"):
            self.answers(STUCK, command, "none")

    def test_needless(self):
        luck = chance(6)
        self.answers(SHOP, "needless", "-")
        self.answers(STUCK, "needless", "2")
        self.answers(Book(["a"]), "needless", "-")
        for _ in range(20):
            book = some_book(luck, "abc", 6, 2, 2)
            self.answers(book, "needless", " ".join(str(position) for position in needless(book)) or "-")

    def test_book(self):
        luck = chance(7)
        self.answers(SHOP, "book", "rule shop ann bob ; rule ann bus+5 ; rule bob bus+9")
        self.answers(Book(["a", "b"]), "book", "-")
        self.answers(Book(["a"], [Rule("a", Term("a") - 1)]), "book", "rule a a-1")
        book = great_book(luck)
        self.answers(book, "book", " ; ".join(book_text(book).split("\n")[1:-1]))

    def test_no_commands(self):
        desk = Desk(SHOP)
        desk.do("rule ann bob")
        desk.do("drop 3")
        for wrong in ODD_VALUES + [5, b"runs", ["runs"], ("runs",), {"runs": 1}] + NO_COMMANDS:
            self.fails(InvalidCommand, {"value": wrong}, desk.do, wrong)
            self.same(shown(desk), (SHOP, 2))
        for command in QUESTIONS:
            desk.do(command)
        self.same(shown(desk), (SHOP, 2))

    def test_limits(self):
        for moment in "ab":
            desk = Desk(Book(["a", "b"], [Rule("a", Term("a")), Rule("b", Term("a"))]))
            desk.do(f"forget {moment}")
            other = "b" if moment == "a" else "a"
            before = shown(desk)
            self.fails(LastOne, {"value": other}, desk.do, f"forget {other}")
            self.same(shown(desk), before)
        desk = Desk(FULL)
        for command in ("forget y", "rule a b"):
            self.fails(TooMany, {"what": "rules", "limit": 100}, desk.do, command)
            self.same(shown(desk), (FULL, 0))
        for wrong in ("rule a zoe", "forget z", "rule a b+0"):
            self.fails(InvalidCommand, {"value": wrong}, desk.do, wrong)
        desk.do("drop 0")
        self.same(desk.do("rule a b"), "done")
        self.same(len(desk.book), 100)


class ChangeTest(Case):
    def test_undo(self):
        self.fails(NothingToUndo, {}, Desk(SHOP).do, "undo")
        desk = Desk(book=SHOP)
        books = [SHOP]
        for command in ("rule bus shop-5", "forget bob", "drop 0", "rule shop bus", "forget ann", "drop 0"):
            desk.do(command)
            books.append(desk.book)
            self.same(desk.undoable, len(books) - 1)
        for question in ("runs", "needless", "book", "span bus shop"):
            desk.do(question)
        while len(books) > 1:
            self.same(shown(desk), (books.pop(), len(books)))
            self.same(desk.do("undo"), "done")
        self.same(shown(desk), (SHOP, 0))
        for _ in range(3):
            self.fails(NothingToUndo, {}, desk.do, "undo")
        desk.do("drop 1")
        self.same(shown(desk), (SHOP.without(1), 1))

    def test_by_chance(self):
        luck = chance(8)
        for _ in range(30):
            book = some_book(luck, "abcde", luck.randint(0, 5), 2, 3)
            desk, books = Desk(book), [book]
            for _ in range(30):
                book = books[-1]
                rule = some_rule(luck, book.moments, 2, 3)
                moment, position = luck.choice(book.moments), luck.randint(0, 6)
                deed = luck.choice(["rule", "drop", "forget", "undo", "undo", "book", "runs", "follows", "set", "take"])
                other = some_book(luck, book.moments, luck.randint(0, 4), 2, 3)
                if deed == "rule":
                    self.same(desk.do(str(rule)), "done")
                    books.append(book.with_rules(rule))
                elif deed == "drop" and position < len(book):
                    self.same(desk.do(f"drop {position}"), "done")
                    books.append(book.without(position))
                elif deed == "drop":
                    self.fails(InvalidCommand, {"value": f"drop {position}"}, desk.do, f"drop {position}")
                elif deed == "forget" and len(book.moments) > 1:
                    self.same(desk.do(f"forget {moment}"), "done")
                    books.append(forget(book, moment))
                elif deed == "forget":
                    self.fails(LastOne, {"value": moment}, desk.do, f"forget {moment}")
                elif deed == "undo" and len(books) > 1:
                    self.same(desk.do("undo"), "done")
                    books.pop()
                elif deed == "undo":
                    self.fails(NothingToUndo, {}, desk.do, "undo")
                elif deed == "set":
                    desk.book = other
                    books.append(other)
                elif deed == "take":
                    self.same(desk.take(other), None)
                    books.append(other)
                elif deed == "runs":
                    self.same(desk.do("runs"), "yes" if has_run(book) else "no")
                elif deed == "follows":
                    self.same(desk.do("follows" + str(rule)[4:]), "yes" if follows(book, rule) else "no")
                else:
                    self.same(desk.do("book"), " ; ".join(str(row) for row in book.rules()) or "-")
                self.same(shown(desk), (books[-1], len(books) - 1))

    def test_another_book(self):
        other = Book(["shop", "bus", "bob", "ann"], [Rule("bus", Term("shop"))])
        gives = [lambda desk, book: setattr(desk, "book", book), Desk.take, lambda desk, book: desk.take(other=book)]
        for give in gives:
            desk = Desk(SHOP)
            self.same(give(desk, other), None)
            self.same(shown(desk), (other, 1))
            give(desk, other)
            self.same(shown(desk), (other, 2))
            self.same(desk.do("book"), "rule bus shop")
            self.same(desk.do_all("undo", "undo"), ["done", "done"])
            self.same(shown(desk), (SHOP, 0))
            for names in ("ann bob bus", "ann bob bus shops", "ann bob bus shop zoe"):
                moments = names.split()
                told = {"one": SHOP.moments, "other": tuple(moments)}
                self.fails(OtherMoments, told, give, desk, Book(moments))
                self.same(shown(desk), (SHOP, 0))
            desk.do("forget bob")
            self.fails(OtherMoments, {"one": ("ann", "bus", "shop"), "other": SHOP.moments}, give, desk, SHOP)
            self.same(desk.undoable, 1)
            give(desk, Book(["shop", "bus", "ann"]))
            self.same(desk.do_all("undo", "undo", "book")[2], "rule shop ann bob ; rule ann bus+5 ; rule bob bus+9")

    def test_books_stay(self):
        desk = Desk(SHOP)
        kept = desk.book
        desk.do_all("drop 0", "forget bob", "rule ann bus")
        self.same(kept, SHOP)
        self.same(len(SHOP), 3)
        other = Desk(desk.book)
        other.do("drop 0")
        self.same(len(desk.book), 2)
        self.same((desk.undoable, other.undoable), (3, 1))


class AllTest(Case):
    def test_answers(self):
        for call in ("do_all", "attempt"):
            desk = Desk(SHOP)
            commands = [
                "follows shop bus+5", "rule bus shop-5", "span bus shop", "forget bob", "book", "undo", "needless",
            ]
            wanted = [
                "yes", "done", "-5 -5", "done", "rule shop ann bus+9 ; rule ann bus+5 ; rule bus shop-5", "done", "-",
            ]
            told = getattr(desk, call)(*commands)
            self.same(told, wanted)
            after = SHOP.with_rules(Rule("bus", Term("shop") - 5))
            self.same(shown(desk), (after, 1) if call == "do_all" else (SHOP, 0))
            told.clear()
            self.same(getattr(desk, call)(), [])

    def test_each_command_counts_by_itself(self):
        desk = Desk(SHOP)
        desk.do_all("drop 0", "drop 0", "drop 0")
        self.same(shown(desk), (Book(SHOP.moments), 3))
        desk.do("undo")
        self.same(shown(desk), (SHOP.without(0, 1), 2))
        self.same(desk.do_all("undo", "undo"), ["done", "done"])
        self.same(shown(desk), (SHOP, 0))

    def failing(self, desk, call, commands, position, cause, told):
        before = shown(desk)
        with self.assertRaises(CommandFailed) as caught:
            getattr(desk, call)(*commands)
        error = caught.exception
        self.assertIs(error.__class__, CommandFailed)
        self.same(vars(error), {"position": position})
        self.assertIs(error.__cause__.__class__, cause)
        self.same(vars(error.__cause__), told)
        self.same(shown(desk), before)

    def test_one_that_fails(self):
        for call in ("do_all", "attempt"):
            desk = Desk(SHOP)
            desk.do("drop 2")
            for wrong in ("drop 9", 7, None, "", "runs ", ["runs"]):
                self.failing(desk, call, [wrong], 0, InvalidCommand, {"value": wrong})
                self.failing(desk, call, ["undo", wrong, "undo"], 1, InvalidCommand, {"value": wrong})
                commands = ["drop 0", "runs", "rule ann bob", "forget bus", wrong, wrong]
                self.failing(desk, call, commands, 4, InvalidCommand, {"value": wrong})
            self.failing(desk, call, ["undo", "runs", "undo"], 2, NothingToUndo, {})
            self.failing(desk, call, ["undo", "undo"], 1, NothingToUndo, {})
            forgets = ["forget ann", "forget bob", "forget bus", "forget shop"]
            self.failing(desk, call, forgets, 3, LastOne, {"value": "shop"})
            self.failing(desk, call, ["undo", *forgets], 4, LastOne, {"value": "shop"})
            self.failing(Desk(FULL), call, ["runs", "forget y"], 1, TooMany, {"what": "rules", "limit": 100})
            self.failing(Desk(FULL), call, ["drop 3", *["rule a b"] * 5], 2, TooMany, {"what": "rules", "limit": 100})
            self.same(desk.do("undo"), "done")
            self.same(shown(desk), (SHOP, 0))
            self.same(getattr(desk, call)("drop 0", "undo"), ["done", "done"])

    def test_attempt_changes_nothing(self):
        luck = chance(9)
        for _ in range(40):
            desk = Desk(some_book(luck, "abcd", 5, 2, 3))
            desk.do_all("drop 1", "rule a b")
            before = shown(desk)
            several = ["drop 0", "drop 1", "undo", "undo", "undo", "forget a", "forget d", "rule b c", "runs"]
            commands = luck.sample(several, 4)
            try:
                told = desk.attempt(*commands)
            except CommandFailed as failed:
                self.same(shown(desk), before)
                cause = failed.__cause__
                self.failing(desk, "do_all", commands, failed.position, cause.__class__, vars(cause))
            else:
                self.same(shown(desk), before)
                self.same(desk.attempt(*commands), told)
                self.same(desk.do_all(*commands), told)


class Strange(Exception):
    """An error that the package does not know."""


class TrialTest(Case):
    def all_back(self, desk):
        """The Books that come as all changes are taken back."""
        books = [desk.book]
        while desk.undoable:
            desk.do("undo")
            books.append(desk.book)
        return books

    def some_desk(self):
        desk = Desk(SHOP)
        desk.do_all("rule ann bob", "forget bus", "drop 0")
        return desk

    def test_tried_by(self):
        wanted = self.all_back(self.some_desk())

        def deed(desk):
            desk.do_all("undo", "undo", "drop 3")
            desk.book = Book(SHOP.moments)
            desk.do("forget shop")
            return [desk.do("book"), desk.undoable, desk]

        desk = self.some_desk()
        before = shown(desk)
        told = desk.tried_by(deed)
        self.same(told[:2], ["-", 4])
        self.assertIs(told[2], desk)
        self.same(shown(desk), before)
        self.same(desk.tried_by(deed=lambda same: same is desk), True)
        self.same(desk.tried_by(lambda same: None), None)
        told = desk.tried_by(lambda same: same.tried_by(lambda again: again.do("drop 0")) + same.do("undo"))
        self.same(told, "donedone")
        self.same(shown(desk), before)
        self.same(self.all_back(desk), wanted)

    def test_tried_by_lets_each_error_through(self):
        for error in (Strange("x"), ValueError("x"), KeyError("x"), NothingToUndo(), RuntimeError("x")):
            desk = self.some_desk()
            before = shown(desk)

            def deed(same):
                same.do_all("undo", "drop 0")
                raise error

            with self.assertRaises(error.__class__) as caught:
                desk.tried_by(deed)
            self.assertIs(caught.exception, error)
            self.same(shown(desk), before)
        with self.assertRaises(InvalidCommand):
            desk.tried_by(lambda same: same.do("undo") + same.do("none"))
        self.same(shown(desk), before)

    def test_trial(self):
        wanted = self.all_back(self.some_desk())
        desk = self.some_desk()
        before = shown(desk)
        with desk.trial() as same:
            self.assertIs(same, desk)
            self.same(shown(desk), before)
            desk.do_all("undo", "undo", "undo")
            self.same(shown(desk), (SHOP, 0))
            desk.do("drop 0")
            desk.book = Book(SHOP.moments)
            desk.take(SHOP)
            self.same(desk.undoable, 3)
        self.same(shown(desk), before)
        self.same(self.all_back(desk), wanted)

    def test_trials_within_one_another(self):
        desk = self.some_desk()
        outer = shown(desk)
        with desk.trial() as one:
            one.do_all("undo", "drop 0")
            inner = shown(desk)
            with one.trial() as two:
                two.do_all("undo", "undo", "rule ann bus+1")
                innermost = shown(desk)
                with two.trial():
                    desk.do("drop 0")
                self.same(shown(desk), innermost)
                self.same(two.attempt("undo", "undo"), ["done", "done"])
                self.same(shown(desk), innermost)
            self.same(shown(desk), inner)
            with desk.trial(), desk.trial():
                desk.do("forget ann")
            self.same(shown(desk), inner)
        self.same(shown(desk), outer)

    def test_one_trial_again_and_within_itself(self):
        desk = self.some_desk()
        before = shown(desk)
        trial = desk.trial()
        desk.do("undo")
        for _ in range(2):
            first = shown(desk)
            with trial:
                desk.do("drop 0")
                second = shown(desk)
                with trial as same:
                    same.do_all("undo", "undo")
                self.same(shown(desk), second)
            self.same(shown(desk), first)
        self.assertNotEqual(shown(desk), before)

    def test_an_error_that_leaves_a_trial(self):
        desk = self.some_desk()
        before = shown(desk)
        for error in (Strange("x"), LastOne("a"), LookupError("x")):
            with self.assertRaises(error.__class__) as caught:
                with desk.trial():
                    desk.do("undo")
                    with desk.trial():
                        desk.do_all("undo", "drop 0")
                        raise error
            self.assertIs(caught.exception, error)
            self.same(shown(desk), before)
        with self.assertRaises(CommandFailed):
            with desk.trial():
                desk.do("undo")
                desk.do_all("undo", "drop 99")
        self.same(shown(desk), before)

    def test_what_fails_within_a_trial(self):
        desk = self.some_desk()
        before = shown(desk)
        with desk.trial():
            desk.do("undo")
            within = shown(desk)
            with self.assertRaises(CommandFailed):
                desk.do_all("undo", "drop 99")
            self.same(shown(desk), within)
            self.same(desk.do_all("undo", "undo"), ["done", "done"])
            self.fails(NothingToUndo, {}, desk.do, "undo")
        self.same(shown(desk), before)

    def test_undo_behind_a_trial(self):
        desk = Desk(SHOP)
        with desk.trial():
            desk.do_all("drop 0", "drop 0")
        self.fails(NothingToUndo, {}, desk.do, "undo")
        desk.do("drop 2")
        with desk.trial():
            desk.do("undo")
            self.fails(NothingToUndo, {}, desk.do, "undo")
        self.same(shown(desk), (SHOP.without(2), 1))
        self.same(desk.do("undo"), "done")
        self.same(shown(desk), (SHOP, 0))


class NumberTest(Case):
    def test_great_numbers(self):
        desk = Desk(Book(["a", "b"]))
        commands = [f"rule a b+{BIG}", f"rule b a-{BIG}", "span a b", f"follows a b+{BIG}", f"least a={LOW} b=0"]
        self.same(desk.do_all(*commands), ["done", "done", f"{BIG} {BIG}", "yes", f"a={BIG} b=0"])
        self.same(desk.do("book"), f"rule a b+{BIG} ; rule b a-{BIG}")
        self.same(desk.book[0], Rule("a", Term("b") + BIG))
        self.same(least_run(desk.book, Run.of(a=0, b=LOW)), Run.of(a=0, b=-BIG))
