"""Promise [71]: holds, forgetting, and completing the runs of what is left."""

import itertools

from anyofthese.alike import are_alike
from anyofthese.books import Book
from anyofthese.drafts import Draft
from anyofthese.earliest import Earliest
from anyofthese.errors import LastOne, NotKept, OtherMoments, TooMany, UnknownMoment
from anyofthese.forget import completed, forget, forget_all, holds
from anyofthese.kept import keeps
from anyofthese.least import least_run
from anyofthese.rules import Rule
from anyofthese.runs import Run
from anyofthese.terms import Term
from tests.samples import BIG, EIGHT, LOW, NO_NAMES, SHOP, Case
from tests.trials import are_kept, box, chance, great_book, is_kept, some_book, some_run, zeros

NEVER = Book(
    ["b", "c", "y"], [Rule("b", Term("c")), Rule("y", Term("y") + 1), Rule("c", Term("y")), Rule("y", Term("b"))],
)


def told(book):
    """The rules of the book, as pairs of the left and a dict."""
    return [(rule.moment, rule.earliest.shifts()) for rule in book.rules()]


def holds_by_hand(book, y):
    """The holds by the words of [71], as dicts; None if a rule of y is never kept."""
    found = []
    for left, shifts in told(book):
        if left == y and not (y in shifts and shifts[y] <= 0):
            others = {moment: shift for moment, shift in shifts.items() if moment != y}
            if not others:
                return None
            found.append(others)
    return found


def put_in_by_hand(shifts, y, hold):
    new = {moment: shift for moment, shift in shifts.items() if moment != y}
    for moment, shift in hold.items():
        new[moment] = min(shift + shifts[y], new.get(moment, shift + shifts[y]))
    return dict(sorted(new.items()))


def forgotten_by_hand(book, y):
    """The moments and the rules, as by told, of the forgotten book by the words of [71]."""
    others = [moment for moment in book.moments if moment != y]
    found = holds_by_hand(book, y)
    if found is None:
        return others, [(others[0], {others[0]: 1})]
    rules = []
    for left, shifts in told(book):
        if left != y and y in shifts:
            rules += [(left, put_in_by_hand(shifts, y, hold)) for hold in found]
        elif left != y:
            rules.append((left, shifts))
    return others, rules


def can_have_a_time(book, times, y):
    """Whether there is a time of y with which these times of the others keep the book: all times that can matter.

    Whether a rule is kept can change only where the left and a term, one of them of y, have the same value."""
    matter = {0}
    for left, shifts in told(book):
        if left == y:
            matter |= {times[moment] + shift for moment, shift in shifts.items() if moment != y}
        elif y in shifts:
            matter.add(times[left] - shifts[y])
    near = sorted({time + step for time in matter for step in (-1, 0, 1)} | {min(matter) - 10, max(matter) + 10})
    return any(are_kept(book, {**times, y: time}) for time in near)


class HoldsTest(Case):
    def test_against_a_reading_by_hand(self):
        luck = chance(1)
        found = {"none": 0, "empty": 0, "some": 0}
        for _ in range(400):
            names = "abcd"[:luck.randint(1, 4)]
            book = some_book(luck, names, luck.randint(0, 6), 2, 2)
            for y in names:
                wanted = holds_by_hand(book, y)
                made = holds(book, y)
                if wanted is None:
                    self.same(made, None)
                else:
                    self.same(made, [Earliest(hold) for hold in wanted])
                found["none" if wanted is None else "some" if wanted else "empty"] += 1
        self.assertGreater(min(found.values()), 50)

    def test_one_of_each(self):
        rules = [
            Rule("y", Term("y") | Term("a") + 2), Rule("y", Term("y") + 1 | Term("b") - 3 | Term("a")),
            Rule("y", Term("a")), Rule("a", Term("y") + 1 | Term("a") + 1), Rule("y", Term("y") - BIG),
            Rule("y", Term("b") + 5),
        ]
        book = Book(["a", "b", "y"], rules)
        self.same(holds(book, "y"), [Earliest.of(a=0, b=-3), Earliest.of(a=0), Earliest.of(b=5)])
        self.same(holds(book=book, moment="b"), [])
        self.same(holds(book, "a"), [Earliest.of(y=1)])
        self.same(holds(book.with_rules(Rule("y", Term("y") + 1)), "y"), None)
        self.same(holds(book.with_rules(Rule("y", Term("y"))), "y"), holds(book, "y"))
        self.same(holds(Book(["a"]), "a"), [])
        self.same(holds(Book(["a"], [Rule("a", Term("a") + 1)]), "a"), None)

    def test_what_is_told_is_new(self):
        first = holds(SHOP, "shop")
        first.clear()
        self.same(holds(SHOP, "shop"), [Earliest.of(ann=0, bob=0)])

    def test_unknown_moments(self):
        for wrong in NO_NAMES + ["zoe", "an"]:
            self.fails(UnknownMoment, {"value": wrong}, holds, SHOP, wrong)
            self.fails(UnknownMoment, {"value": wrong}, forget, SHOP, wrong)
            self.fails(UnknownMoment, {"value": wrong}, forget, Book(["b"]), wrong)
            self.fails(UnknownMoment, {"value": wrong}, completed, SHOP, wrong, Run.of(other=1))
        self.same(holds(SHOP, "bus"), [])
        self.same(forget(SHOP, "shop").moments, ("ann", "bob", "bus"))


class ForgetTest(Case):
    def right(self, book, y):
        others, rules = forgotten_by_hand(book, y)
        left = forget(book, y)
        self.assertIs(left.__class__, Book)
        self.same(left.moments, tuple(others))
        self.same(told(left), rules)
        self.assertEqual(forget(book, y), left)
        return left

    def test_against_a_reading_by_hand(self):
        luck = chance(2)
        for _ in range(300):
            names = "abcde"[:luck.randint(2, 5)]
            book = some_book(luck, names, luck.randint(0, 6), 3, 3)
            before = repr(book)
            for y in names:
                self.right(book, y)
            self.assertEqual(repr(book), before)

    def test_the_document(self):
        left = forget(moment="bob", book=SHOP)
        self.same([str(rule) for rule in left.rules()], ["rule shop ann bus+9", "rule ann bus+5"])
        stuck = Book(["a", "b"], [Rule("a", Term("b") + 3), Rule("b", Term("a") - 2), Rule("b", Term("a") - 4)])
        self.same(forget(stuck, "b").rules(), [Rule("a", Term("a") + 1), Rule("a", Term("a") - 1)])

    def test_the_sequence_of_what_comes(self):
        rules = [
            Rule("a", Term("b") + 1), Rule("y", Term("c") + 10 | Term("a")), Rule("b", Term("y") + 5 | Term("c") + 20),
            Rule("c", Term("a")), Rule("y", Term("b")), Rule("a", Term("y") - 1 | Term("b") - 7), Rule("c", Term("a")),
        ]
        left = self.right(Book(["a", "b", "c", "y"], rules), "y")
        self.same([str(rule) for rule in left.rules()], [
            "rule a b+1", "rule b a+5 c+15", "rule b b+5 c+20", "rule c a", "rule a a-1 b-7 c+9", "rule a b-7",
            "rule c a",
        ])

    def test_the_moment_as_left_and_as_an_alternative(self):
        rules = [
            Rule("y", Term("y") | Term("a") + 7), Rule("a", Term("y") + 1), Rule("a", Term("b") + 2 | Term("y")),
            Rule("b", Term("a")),
        ]
        book = Book(["a", "b", "y"], rules)
        self.same([str(rule) for rule in self.right(book, "y").rules()], ["rule b a"])
        held = book.with_rules(Rule("y", Term("y") + 5 | Term("b") - 1))
        self.same([str(rule) for rule in self.right(held, "y").rules()], ["rule a b", "rule a b-1", "rule b a"])

    def test_never_kept(self):
        self.same(forget(NEVER, "y"), Book(["b", "c"], [Rule("b", Term("b") + 1)]))
        self.right(NEVER, "y")
        renamed = NEVER.renamed({"b": "z", "c": "x", "y": "a"})
        self.same(forget(renamed, "a"), Book(["x", "z"], [Rule("x", Term("x") + 1)]))
        self.right(NEVER, "b")
        alone = Book(["a", "y"], [Rule("y", Term("y") + BIG)])
        self.same(forget(alone, "y"), Book(["a"], [Rule("a", Term("a") + 1)]))

    def test_books_that_were_made_of_others(self):
        rule = Rule("bus", Term("bob") - 9 | Term("ann") - 5)
        draft = Draft(SHOP)
        draft += rule
        draft.drop(0)
        names = {"shop": "z", "ann": "y", "bob": "x", "bus": "w"}
        other = Book(["bob", "cat"], [Rule("bob", Term("cat") | Term("bob") + 1), Rule("cat", Term("bob"))])
        made = [SHOP.with_rules(rule), SHOP.without(1), SHOP & other, other & SHOP, SHOP.renamed(names), draft.book]
        for book in made:
            for moment in book.moments:
                self.right(book, moment)
                self.right(book, moment)

    def test_runs_are_those_without_the_moment(self):
        luck = chance(3)
        found = {True: 0, False: 0}
        for _ in range(150):
            names = "abcd"[:luck.randint(2, 4)]
            book = some_book(luck, names, luck.randint(1, 6), 3, 2)
            y = luck.choice(names)
            left = forget(book, y)
            for times in box([moment for moment in names if moment != y], 0, 4):
                wanted = can_have_a_time(book, times, y)
                self.assertEqual(are_kept(left, times), wanted)
                found[wanted] += 1
        self.assertGreater(min(found.values()), 1000)

    def test_runs_with_great_shifts(self):
        luck = chance(4)
        found = {True: 0, False: 0}
        for _ in range(60):
            book = great_book(luck, 7, 3, 10 ** 45)
            y = luck.choice(book.moments)
            left = forget(book, y)
            for _ in range(10):
                floors = some_run(luck, left.moments, 10 ** 45)
                for run in (floors, least_run(left, floors)):
                    moment = luck.choice(left.moments)
                    moved = run.with_time(moment, run[moment] - luck.randint(1, 3))
                    for times in (run.times(), moved.times()):
                        wanted = can_have_a_time(book, times, y)
                        self.assertEqual(are_kept(left, times), wanted)
                        found[wanted] += 1
        self.assertGreater(min(found.values()), 300)

    def test_the_last_one(self):
        for book in (Book(["a"]), Book(["a"], [Rule("a", Term("a") + 1)]), Book(["a"], [Rule("a", Term("a"))] * 100)):
            self.fails(LastOne, {"value": "a"}, forget, book, "a")
            self.fails(LastOne, {"value": "a"}, completed, book, "a", Run.of(a=0))
            self.fails(UnknownMoment, {"value": "b"}, forget, book, "b")
        self.same(forget(Book(["b", "a"]), "a"), Book(["b"]))


class LimitTest(Case):
    def crowded(self, staying, replaced, held):
        """A book in which so many rules stay, so many are replaced, and y has so many holds."""
        rules = [Rule("a", Term("b"))] * staying + [Rule("b", Term("y") | Term("a"))] * replaced
        return Book(["a", "b", "y"], rules + [Rule("y", Term("a"))] * held)

    def test_just_a_hundred_are_let(self):
        for staying, replaced, held in ((0, 10, 10), (1, 9, 11), (50, 25, 2), (90, 5, 2), (99, 1, 0), (0, 1, 99)):
            book = self.crowded(staying, replaced, held)
            self.same(len(forget(book, "y")), staying + replaced * held)
            if staying + replaced * held == 100:
                more = book.with_rules(Rule("a", Term("b")))
                self.fails(TooMany, {"what": "rules", "limit": 100}, forget, more, "y")
        for book in (self.crowded(1, 10, 10), self.crowded(0, 50, 50), self.crowded(0, 51, 2), self.crowded(52, 7, 7)):
            self.fails(TooMany, {"what": "rules", "limit": 100}, forget, book, "y")
            self.fails(TooMany, {"what": "rules", "limit": 100}, completed, book, "y", Run.of(zoe=1))
            self.fails(TooMany, {"what": "rules", "limit": 100}, forget_all, book, "y")
            without = [position for position in range(len(book)) if book[position].moment == "y"]
            self.same(forget(book.without(*without), "y").moments, ("a", "b"))

    def test_what_is_always_kept_does_not_count(self):
        rules = [Rule("b", Term("y"))] * 10 + [Rule("y", Term("a"))] * 10 + [Rule("y", Term("y") | Term("a"))] * 40
        book = Book(["a", "b", "y"], rules)
        self.same(len(forget(book, "y")), 100)
        more = book.with_rules(Rule("y", Term("a")))
        self.fails(TooMany, {"what": "rules", "limit": 100}, forget, more, "y")

    def test_a_hundred_rules_that_stay(self):
        book = Book(["a", "b", "y"], [Rule("a", Term("b"))] * 100)
        self.same(forget(book, "y"), Book(["a", "b"], [Rule("a", Term("b"))] * 100))

    def test_never_kept_has_no_limit(self):
        book = self.crowded(0, 50, 49).with_rules(Rule("y", Term("y") + 1))
        self.same(forget(book, "y"), Book(["a", "b"], [Rule("a", Term("a") + 1)]))
        self.fails(TooMany, {"what": "rules", "limit": 100}, forget, book.without(99), "y")

    def test_the_sequence_of_the_errors(self):
        alone = Book(["y"], [Rule("y", Term("y"))] * 100)
        self.fails(UnknownMoment, {"value": "z"}, forget, alone, "z")
        self.fails(LastOne, {"value": "y"}, forget, alone, "y")
        self.fails(UnknownMoment, {"value": "z"}, forget, self.crowded(0, 50, 50), "z")


class ForgetAllTest(Case):
    def test_one_behind_another(self):
        luck = chance(5)
        for _ in range(60):
            names = "abcde"[:luck.randint(2, 5)]
            book = some_book(luck, names, luck.randint(0, 5), 3, 3)
            self.same(forget_all(book), book)
            for many in range(1, len(names)):
                for chosen in itertools.permutations(luck.sample(names, many)):
                    wanted = book
                    for moment in chosen:
                        wanted = forget(wanted, moment)
                    self.same(forget_all(book, *chosen), wanted)

    def test_sequences_have_the_same_runs(self):
        luck = chance(6)
        for _ in range(40):
            book = some_book(luck, "abcde", 5, 2, 3)
            left = [forget_all(book, *chosen) for chosen in itertools.permutations("bde")]
            self.assertTrue(all(are_alike(left[0], other) for other in left[1:]))

    def test_the_document(self):
        self.same([str(rule) for rule in forget_all(SHOP, "bob", "ann").rules()], ["rule shop bus+5"])
        self.same(forget_all(SHOP, "bus").rules(), [Rule("shop", Term("ann") | Term("bob"))])
        self.same(forget_all(SHOP, "ann", "bob", "bus"), Book(["shop"]))

    def test_unknown_moments(self):
        for wrong in NO_NAMES + ["zoe", "an"]:
            for passed in ([wrong], ["ann", wrong], ["ann", "bob", "bus", "shop", wrong], ["ann", wrong, "ann", 5]):
                self.fails(UnknownMoment, {"value": wrong}, forget_all, SHOP, *passed)
            self.fails(UnknownMoment, {"value": wrong}, forget_all, Book(["b"]), wrong)
        self.fails(UnknownMoment, {"value": "ann"}, forget_all, SHOP, "ann", "ann")
        self.fails(UnknownMoment, {"value": "bob"}, forget_all, SHOP, "ann", "bob", "bus", "bob", "ann", 7)
        self.fails(UnknownMoment, {"value": "a"}, forget_all, Book(["a", "b"]), "a", "b", "a")
        self.same(forget_all(SHOP, "ann", "bob").moments, ("bus", "shop"))

    def test_the_last_one(self):
        for chosen in itertools.permutations(SHOP.moments):
            self.fails(LastOne, {"value": chosen[-1]}, forget_all, SHOP, *chosen)
        self.fails(LastOne, {"value": "a"}, forget_all, Book(["a"]), "a")
        self.same(forget_all(Book(["a"])), Book(["a"]))

    def test_errors_of_moments_ahead_of_all_forgetting(self):
        rules = [Rule("b", Term("y") | Term("a"))] * 50 + [Rule("y", Term("a"))] * 50
        book = Book(["a", "b", "y"], rules)
        self.fails(TooMany, {"what": "rules", "limit": 100}, forget_all, book, "y", "b")
        self.fails(UnknownMoment, {"value": "z"}, forget_all, book, "y", "z")
        self.fails(LastOne, {"value": "b"}, forget_all, book, "y", "a", "b")
        self.same(forget_all(book, "b", "y"), Book(["a"]))

    def test_too_many_at_a_later_step(self):
        rules = [Rule("b", Term("y"))] * 12 + [Rule("y", Term("x"))] * 8
        rules += [Rule("x", Term("c") - 1), Rule("x", Term("b") - 1)]
        book = Book(["b", "c", "x", "y"], rules)
        self.same(len(forget_all(book, "y")), 98)
        self.fails(TooMany, {"what": "rules", "limit": 100}, forget_all, book, "y", "x")
        self.same(forget_all(book, "y", "b").moments, ("c", "x"))
        self.fails(TooMany, {"what": "rules", "limit": 100}, forget_all, book, "x", "y")
        self.same(len(forget_all(book, "x")), 28)


class CompletedTest(Case):
    def right(self, book, y, run):
        """What is completed is a run of the book, with the times of the run and the greatest value of the holds."""
        made = completed(book, y, run)
        self.assertIs(made.__class__, Run)
        self.same(made.moments, book.moments)
        self.assertTrue(are_kept(book, made.times()))
        for moment in run.moments:
            self.same(made[moment], run[moment])
        found = holds_by_hand(book, y)
        if found:
            self.same(made[y], max(min(run[moment] + shift for moment, shift in hold.items()) for hold in found))
        self.same(completed(book, y, run), made)
        return len(found)

    def test_against_all_times_of_a_box(self):
        luck = chance(7)
        found = {}
        for _ in range(300):
            names = "abc"[:luck.randint(2, 3)]
            book = some_book(luck, names, luck.randint(0, 7), 2, 2)
            y = luck.choice(names)
            left = forget(book, y)
            for times in box(left.moments, 0, 3):
                run = Run(times)
                broken = [position for position, rule in enumerate(left.rules()) if not is_kept(rule, times)]
                if broken:
                    self.fails(NotKept, {"position": broken[0]}, completed, book, y, run)
                else:
                    many = self.right(book, y, run)
                    found[min(many, 2)] = found.get(min(many, 2), 0) + 1
                found["broken"] = found.get("broken", 0) + (len(broken) > 0)
        self.assertEqual(len(found), 4)
        self.assertGreater(min(found.values()), 60, found)

    def test_great_shifts(self):
        luck = chance(8)
        for _ in range(40):
            book = great_book(luck, 9, 3, 10 ** 45)
            for y in book.moments:
                left = forget(book, y)
                run = least_run(left, some_run(luck, left.moments, 10 ** 45))
                self.right(book, y, run)
                self.right(book, y, run + LOW)

    def test_without_holds(self):
        book = Book(["a", "b", "y"], [Rule("a", Term("y") + 5 | Term("b")), Rule("b", Term("y") - BIG)])
        for run in (Run.of(a=0, b=0), Run.of(a=-BIG, b=BIG), Run.of(a=LOW, b=LOW), Run.of(a=3, b=-4)):
            self.same(self.right(book, "y", run), 0)
        self.same(completed(Book(["a", "y"]), "y", Run.of(a=3)).only(["a"]), Run.of(a=3))

    def test_the_document(self):
        run = Run.of(shop=5, ann=5, bus=0)
        self.same(completed(SHOP, "bob", run), Run.of(ann=5, bob=9, bus=0, shop=5))
        self.same(completed(run=run, moment="bob", book=SHOP), Run.of(ann=5, bob=9, bus=0, shop=5))
        self.fails(NotKept, {"position": 0}, completed, SHOP, "bob", run - 1 & run.with_time("shop", 3))
        self.fails(NotKept, {"position": 1}, completed, SHOP, "bob", run.with_time("ann", 4))

    def test_other_moments(self):
        for names in ("ann bob bus shop", "ann bus", "ann bus shops", "ann bus shop z"):
            moments = names.split()
            wrong = {"one": ("ann", "bus", "shop"), "other": tuple(moments)}
            self.fails(OtherMoments, wrong, completed, SHOP, "bob", zeros(moments))
        self.fails(OtherMoments, {"one": ("b", "c"), "other": ("b", "y")}, completed, NEVER, "y", Run.of(b=0, y=0))
        self.same(completed(SHOP, "bob", Run.of(ann=9, bus=0, shop=9))["bob"], 9)

    def test_never_kept(self):
        for run in (Run.of(b=0, c=0), Run.of(b=BIG, c=0), Run.of(b=0, c=LOW)):
            self.fails(NotKept, {"position": 0}, completed, NEVER, "y", run)
        self.right(NEVER.without(1), "y", Run.of(b=0, c=0))

    def test_the_sequence_of_the_errors(self):
        rules = [Rule("b", Term("y") + 1 | Term("a") + 1)] * 50 + [Rule("y", Term("a"))] * 50
        book = Book(["a", "b", "y"], rules)
        self.fails(UnknownMoment, {"value": "z"}, completed, book, "z", Run.of(z=0))
        self.fails(LastOne, {"value": "y"}, completed, Book(["y"], [Rule("y", Term("y") + 1)]), "y", Run.of(z=0))
        self.fails(TooMany, {"what": "rules", "limit": 100}, completed, book, "y", Run.of(z=0))
        fewer = book.without(*range(48), *range(52, 100))
        self.fails(OtherMoments, {"one": ("a", "b"), "other": ("a", "z")}, completed, fewer, "y", Run.of(a=1, z=0))
        self.fails(NotKept, {"position": 0}, completed, fewer, "y", Run.of(a=0, b=0))
        self.right(fewer, "y", Run.of(a=0, b=1))

    def test_several_moments_backwards(self):
        luck = chance(9)
        for _ in range(60):
            book = great_book(luck, luck.randint(4, 9), 2, 10 ** 45)
            books = [book]
            chosen = luck.sample(book.moments, luck.randint(1, 5))
            for moment in chosen:
                books.append(forget(books[-1], moment))
            self.same(books[-1], forget_all(book, *chosen))
            run = least_run(books[-1], some_run(luck, books[-1].moments, 10 ** 45))
            for ahead, moment in reversed(list(zip(books, chosen))):
                self.right(ahead, moment, run)
                run = completed(ahead, moment, run)
            self.assertTrue(keeps(book, run))

    def test_eight_moments(self):
        book = Book(EIGHT, [Rule(left, Term(by) + BIG) for left, by in zip(EIGHT[1:], EIGHT)])
        left = forget_all(book, *EIGHT[1:7])
        self.same(left.rules(), [Rule("h", Term("a") + 7 * BIG)])
        self.same(forget(book, "a").rules(), book.rules()[1:])
