"""Promises [61] and [66]: which rules follow, how strongly, and what shows it."""

from anyofthese.books import Book
from anyofthese.earliest import Earliest
from anyofthese.errors import NoRun, UnknownMoment
from anyofthese.follows import against, follows, is_reason, reason, strength
from anyofthese.kept import keeps
from anyofthese.refusals import has_run
from anyofthese.rules import Rule
from anyofthese.runs import Run
from anyofthese.terms import Term
from tests.samples import BIG, EIGHT, LOW, NO_NAMES, ODD_VALUES, SHOP, Case
from tests.trials import (
    book_with_run, chance, follows_by_lifting, great_book, is_kept, runs_in_box, some_book, some_rule, told_refusal,
)

STUCK = Book(["a", "b"], [Rule("a", Term("b") + 3), Rule("b", Term("a") - 2)])
# Its reasons have the rules 0 to 2 and, behind them as 3, that bus is not ahead of shop - 4.
GOAL = Rule("shop", Term("bus") + 5)


class FollowsTest(Case):
    def right(self, book, rule):
        """What is told of the rule is right, looked at line by line; whether it follows."""
        told = follows(book, rule)
        paper = reason(book, rule)
        run = against(book, rule)
        self.same(told, paper is not None)
        self.assertEqual(told, run is None)
        if told:
            self.assertTrue(told_refusal(book.moments, book.rules() + rule.contrary(), paper))
            for line in paper.values():
                self.assertEqual([line.__class__] + [part.__class__ for part in line], [tuple, int, int])
            self.same(is_reason(book, rule, paper), True)
            self.same(reason(book, rule), paper)
        else:
            self.assertIs(run.__class__, Run)
            self.assertTrue(keeps(book, run))
            self.assertFalse(is_kept(rule, run.times()))
            self.same(against(book, rule), run)
        return told

    def test_against_all_times_of_a_box(self):
        luck = chance(1)
        found = {True: 0, False: 0}
        for _ in range(60):
            names = "abc"[:luck.randint(1, 3)]
            book = some_book(luck, names, luck.randint(0, 4), 3, 2)
            # A run that keeps the book and not the rule needs no time ahead of 0, and none behind 2 * 3.
            runs = runs_in_box(book, 6)
            for _ in range(6):
                rule = some_rule(luck, names, 3, 2)
                wanted = all(is_kept(rule, times) for times in runs)
                self.assertEqual(self.right(book, rule), wanted)
                found[wanted] += 1
        self.assertGreater(min(found.values()), 60)

    def test_against_lifting(self):
        luck = chance(2)
        for _ in range(200):
            book = some_book(luck, "abcde", luck.randint(0, 8), 2, 3)
            rule = some_rule(luck, "abcde", 3, 6)
            self.assertEqual(self.right(book, rule), follows_by_lifting(book, rule))

    def test_a_rule_of_the_book(self):
        luck = chance(3)
        for _ in range(40):
            book = book_with_run(luck, "abcd", 5)
            for rule in book.rules():
                self.assertTrue(self.right(book, rule))
                self.assertTrue(self.right(book, rule - 1))
                self.assertTrue(self.right(book, rule - BIG))
                self.assertEqual(self.right(book, rule + 1), follows_by_lifting(book, rule + 1))
        self.same(follows(SHOP, GOAL), True)
        self.same(follows(SHOP, GOAL + 1), False)

    def test_always_and_never_kept(self):
        luck = chance(4)
        for _ in range(20):
            book = book_with_run(luck, "abc", 4)
            for shift in (0, -1, LOW):
                self.assertTrue(self.right(book, Rule("a", Term("a") + shift)))
                self.assertTrue(self.right(book, Rule("a", Term("a") + shift | Term("b") + BIG)))
                self.assertFalse(self.right(book, Rule("b", Term("b") + 1 - shift)))
        empty = Book(["a", "b"])
        self.assertFalse(self.right(empty, Rule("a", Term("b") + LOW)))
        self.assertFalse(self.right(empty, Rule("a", Term("b") + LOW | Term("a") + 1)))
        self.assertTrue(self.right(empty, Rule("a", Term("a"))))

    def test_without_a_run_every_rule_follows(self):
        for rule in (Rule("a", Term("b") + BIG), Rule("b", Term("b") + 1), Rule("b", Term("a") | Term("b") + BIG)):
            self.assertTrue(self.right(STUCK, rule))
            self.same(is_reason(STUCK, rule, {"a": (0, 5), "b": (1, 0)}), True)

    def test_behind_a_hundred_rules(self):
        luck = chance(5)
        found = {True: 0, False: 0}
        for _ in range(15):
            book = great_book(luck)
            self.assertEqual(len(book), 100)
            for position in (0, 50, 99):
                self.assertTrue(self.right(book, book[position]))
                self.assertTrue(self.right(book, book[position] - 1))
                rule = Rule("a", Earliest({name: luck.randint(LOW, BIG) for name in EIGHT}))
                found[self.right(book, rule + luck.choice([BIG, LOW]))] += 1
                found[self.right(book, book[position] + 1)] += 1
        self.assertGreater(min(found.values()), 10)
        full = Book(EIGHT, [Rule("a", Term("b"))] * 100)
        goal = Rule("a", Earliest({name: 0 for name in EIGHT}))
        self.assertTrue(self.right(full, goal))
        self.assertTrue(self.right(full, Rule("a", Term("b") | Term("c"))))
        self.assertTrue(self.right(full, Rule("a", Term("b") | Term("c") | Term("d") - 7)))
        self.assertFalse(self.right(full, Rule("a", Term("b") + 1 | Term("c"))))
        told = reason(full, Rule("a", Term("b")))
        self.assertEqual(told["b"][0], 100)

    def test_growing_books(self):
        luck = chance(6)
        book = great_book(luck)
        goals = [some_rule(luck, EIGHT, 3, BIG) - luck.randint(0, BIG) for _ in range(10)]
        followed = [False] * 10
        strengths = [None] * 10
        for many in range(0, 101, 5):
            part = Book(EIGHT, book.rules()[:many])
            for k, goal in enumerate(goals):
                now = follows(part, goal)
                self.assertTrue(now or not followed[k])
                strong = strength(part, goal)
                self.assertEqual(now, strong is not None and strong >= 0)
                if strengths[k] is not None:
                    self.assertGreaterEqual(strong, strengths[k])
                followed[k], strengths[k] = now, strong
        self.assertNotIn(None, strengths)

    def test_unknown_moments(self):
        for call in (follows, reason, against, strength, lambda book, rule: is_reason(book, rule, None)):
            for rule, value in (
                (Rule("zoe", Term("ann")), "zoe"), (Rule("zoe", Term("abe")), "zoe"), (Rule("ann", Term("zoe")), "zoe"),
                (Rule("ann", Term("zoe") | Term("abe") | Term("bob")), "abe"), (Rule("bus", Term("bu")), "bu"),
                (Rule("ann", Term("zoe") | Term("bob")), "zoe"),
            ):
                self.fails(UnknownMoment, {"value": value}, call, SHOP, rule)
            self.fails(UnknownMoment, {"value": "c"}, call, STUCK, Rule("a", Term("c")))
            call(SHOP, GOAL)

    def test_by_name_and_new_each_time(self):
        self.same(follows(rule=GOAL, book=SHOP), True)
        self.same(against(rule=GOAL + 1, book=SHOP).gap("shop", "bus"), 5)
        told = reason(rule=GOAL, book=SHOP)
        kept = dict(told)
        self.same(is_reason(value=told, rule=GOAL, book=SHOP), True)
        told.clear()
        self.same(reason(SHOP, GOAL), kept)
        self.same([reason(SHOP, GOAL + 1), against(SHOP, GOAL)], [None, None])
        self.same(strength(rule=GOAL, book=SHOP), 0)


class IsReasonTest(Case):
    # 4 * 0 + number of ann or bob >= number of shop + 1 and so on; 4 * -4 + number of shop >= number of bus + 1.
    near = {"ann": (1, 17), "bob": (2, 32), "bus": (3, 0), "shop": (0, 16)}
    least = {"ann": (1, 18), "bob": (2, 18), "bus": (3, 0), "shop": (0, 17)}

    def told(self, value, book=SHOP, rule=GOAL):
        before = repr(value)
        found = is_reason(book, rule, value)
        self.assertIs(found.__class__, bool)
        self.assertEqual(repr(value), before)
        return found

    def test_numbers(self):
        # shop lies from 17 up, ann from shop + 1 to 19, bob from shop + 1 to 35.
        for shop in range(15, 20):
            for ann in range(16, 22):
                for bob in (shop, shop + 1, 35, 36):
                    value = {"ann": (1, ann), "bob": (2, bob), "bus": (3, 0), "shop": (0, shop)}
                    wanted = told_refusal(SHOP.moments, SHOP.rules() + GOAL.contrary(), value)
                    self.same(self.told(value), wanted)
                    self.assertEqual(wanted, shop >= 17 and shop + 1 <= ann <= 19 and shop + 1 <= bob <= 35)

    def test_just_so(self):
        self.same(self.told(self.least), True)
        self.same(self.told(self.near), False)
        self.same(self.told(self.least, rule=GOAL + 1), False)
        self.same(self.told(self.least, rule=GOAL - 1), True)
        for moment in self.least:
            position, number = self.least[moment]
            for other in [0, 1, 2, 3, 4, -1, -2, BIG, "0"] + ODD_VALUES:
                same = other.__class__ is int and other == position
                self.same(self.told({**self.least, moment: (other, number)}), same)
            for line in ([position, number], (position,), (position, number, 0), number, {position: number}, None):
                self.same(self.told({**self.least, moment: line}), False)
            for wrong in ODD_VALUES + ["0"]:
                self.same(self.told({**self.least, moment: (position, wrong)}), False)
            self.same(self.told({key: self.least[key] for key in self.least if key != moment}), False)
        self.same(self.told({**self.least, "ann": (True, 18)}), False)
        self.same(self.told({**self.least, "shop": (False, 17)}), False)
        self.same(self.told({**self.least, "bus": (3, False)}), False)

    def test_moments_more(self):
        wide = SHOP & Book(["zoe"])
        self.same(self.told(self.least, wide), True)
        self.same(self.told({**self.least, "zoe": (3, 0)}, wide), False)
        self.same(self.told({**self.least, "zoe": (0, 0)}), False)
        for key in [key for key in NO_NAMES if getattr(key, "__hash__", None) is not None]:
            if not isinstance(key, tuple) or key == ():
                self.same(self.told({**self.least, key: (0, 0)}), False)

    def test_values_of_every_other_kind(self):
        for value in ODD_VALUES + [5, "a", list(self.least.items()), [self.least], Run.of(a=0)]:
            self.same(self.told(value), False)

    def test_positions_of_the_contrary(self):
        goal = Rule("shop", Term("ann") | Term("bob"))
        lone = Book(["ann", "bob", "shop"], [goal])
        for told, right in (
            ({"ann": (1, 3), "bob": (2, 3), "shop": (0, 2)}, True),
            ({"ann": (1, 5), "bob": (2, 3), "shop": (0, 2)}, False),
            ({"ann": (1, 3), "bob": (2, 2), "shop": (0, 2)}, False),
            ({"ann": (1, 1), "bob": (2, 1), "shop": (0, 0)}, True),
            ({"ann": (2, 1), "bob": (1, 1), "shop": (0, 0)}, False),
            ({"ann": (1, 1), "bob": (1, 1), "shop": (0, 0)}, False),
            ({"ann": (1, 1), "shop": (0, 0)}, False),
            ({"ann": (1, 2), "bob": (2, 1), "shop": (0, 0)}, True),
            ({"ann": (1, 3), "bob": (2, 1), "shop": (0, 0)}, False),
        ):
            self.same(self.told(told, lone, goal), right)

    def test_changed_by_chance(self):
        luck = chance(7)
        found = {True: 0, False: 0}
        for _ in range(150):
            book = some_book(luck, "abc", 5, 2, 3)
            rule = some_rule(luck, "abc", 2, 3)
            told = reason(book, rule)
            if told is None:
                self.same(self.told({"a": (0, 0)}, book, rule), False)
                continue
            for _ in range(10):
                moment = luck.choice(sorted(told))
                position, number = told[moment]
                position = luck.choice([position, luck.randrange(5 + len(rule.earliest))])
                value = {**told, moment: (position, number + luck.randint(-2, 2))}
                wanted = told_refusal(book.moments, book.rules() + rule.contrary(), value)
                found[wanted] += 1
                self.same(self.told(value, book, rule), wanted)
        self.assertGreater(min(found.values()), 100)


class StrengthTest(Case):
    def test_raised_by_it_and_by_one_more(self):
        luck = chance(8)
        found = {True: 0, False: 0}
        for _ in range(150):
            names = "abcd"[:luck.randint(1, 4)]
            book = book_with_run(luck, names, luck.randint(0, 6))
            rule = some_rule(luck, names, 3, 4)
            strong = strength(book, rule)
            found[strong is None] += 1
            if strong is None:
                for number in (0, -50, LOW):
                    self.assertFalse(follows(book, rule + number))
            else:
                self.assertIs(strong.__class__, int)
                self.assertTrue(follows_by_lifting(book, rule + strong))
                self.assertFalse(follows_by_lifting(book, rule + (strong + 1)))
                self.assertTrue(follows(book, rule + strong))
                self.assertFalse(follows(book, rule + (strong + 1)))
        self.assertGreater(min(found.values()), 30)

    def test_the_least_slack_of_a_box(self):
        luck = chance(9)
        for _ in range(40):
            book = book_with_run(luck, "abc", 4, 2, 2)
            rule = some_rule(luck, "abc", 2, 2)
            slack = min(rule.slack(times) for times in runs_in_box(book, 15))
            # A least slack below this one can be made less without end.
            self.same(strength(book, rule), None if slack < -6 else slack)

    def test_a_raised_rule_is_so_much_weaker(self):
        luck = chance(10)
        for _ in range(50):
            book = book_with_run(luck, "abc", 4)
            rule = some_rule(luck, "abc", 2, 3)
            for number in (1, -1, BIG, LOW):
                strong = strength(book, rule)
                self.same(strength(book, rule + number), None if strong is None else strong - number)

    def test_all_shifts_times_a_great_number(self):
        luck = chance(11)
        for _ in range(50):
            book = book_with_run(luck, "abcd", 6)
            rule = some_rule(luck, "abcd", 2, 3)
            strong = strength(book, rule)
            for number in (2, 10 ** 50, 10 ** 50 + 7):
                def great(small):
                    shifts = small.earliest.shifts()
                    return Rule(small.moment, Earliest({name: number * shifts[name] for name in shifts}))
                wide = Book(book.moments, [great(small) for small in book.rules()])
                self.same(strength(wide, great(rule)), None if strong is None else strong * number)

    def test_great_books(self):
        luck = chance(12)
        for _ in range(10):
            book = great_book(luck)
            for _ in range(5):
                rule = some_rule(luck, EIGHT, 4, BIG)
                strong = strength(book, rule)
                if strong is not None:
                    self.assertTrue(follows(book, rule + strong))
                    self.assertFalse(follows(book, rule + (strong + 1)))
            for rule in book.rules():
                self.assertGreaterEqual(strength(book, rule), 0)

    def test_examples(self):
        self.same(strength(SHOP, Rule("shop", Term("bus"))), 5)
        self.same(strength(SHOP, Rule("bus", Term("shop"))), None)
        self.same(strength(SHOP, Rule("shop", Term("bus") + BIG)), 5 - BIG)
        self.same(strength(SHOP, Rule("shop", Term("shop"))), 0)
        self.same(strength(SHOP, Rule("shop", Term("shop") + BIG)), -BIG)
        self.same(strength(SHOP, Rule("shop", Term("shop") + BIG | Term("bus"))), 5)
        self.same(strength(SHOP, Rule("shop", Term("shop") - 7 | Term("bus"))), 7)
        self.same(strength(SHOP, Rule("bus", Term("shop") | Term("bus") + 3)), -3)
        self.same(strength(Book(["a", "b"]), Rule("a", Term("b"))), None)

    def test_no_run(self):
        for rule in (Rule("a", Term("b")), Rule("b", Term("b")), Rule("a", Term("a") + 1)):
            self.fails(NoRun, {}, strength, STUCK, rule)
        self.fails(UnknownMoment, {"value": "c"}, strength, STUCK, Rule("c", Term("a")))
        self.same(strength(STUCK.without(0), Rule("b", Term("a"))), -2)
        self.assertTrue(has_run(STUCK.without(0)))
