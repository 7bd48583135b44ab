"""Promises [81], [82] and [91]: round rules and plans, their texts, and the book of a plan at a pace."""

from anyofthese.books import Book
from anyofthese.earliest import Earliest
from anyofthese.errors import (
    InvalidMoments, InvalidName, InvalidPace, InvalidPosition, InvalidRules, InvalidTerms, TooMany,
)
from anyofthese.plans import Plan, RoundRule, at_pace
from anyofthese.rules import Rule
from anyofthese.terms import Term
from tests.samples import BIG, EIGHT, LOW, NAMES, NO_INTEGERS, NO_NAMES, NO_PACES, ODD_VALUES, Case
from tests.trials import book_at, chance, some_plan, some_round_rule

FIRST = RoundRule("a", [("b", 3, 1)])
SECOND = RoundRule("b", [("b", 2, 1), ("a", 4, 0)])
PLAN = Plan(["b", "a"], [FIRST, SECOND])
NO_TERM_LISTS = [value for value in ODD_VALUES if value not in (["a"], ("a",))] + [5, "ab", "", {("a", 1, 0): 1}]
NO_TERMS = ODD_VALUES + [
    "a", "a+1", 5, ("a", 1), ("a", 1, 0, 0), ["a", 1, 0], [("a", 1, 0)], (("a", 1, 0),), {"a": 1}, ("a", 1, 5),
    ("a", 1, -1), ("a", 1, True), ("a", 1, False), ("a", 1, None), ("a", 1, "1"), ("a", 1, BIG), ("a", 1, (1,)),
]


class RoundRuleTest(Case):
    def test_parts(self):
        terms = [("bob", -2, 4), ("ann", 3, 1), ("ann", 7, 0), ("shop", 0, 2), ("bob", BIG, 0)]
        for passed in (terms, tuple(terms), terms[::-1], terms[2:] + terms[:2]):
            rule = RoundRule("cat", passed)
            self.same(rule.moment, "cat")
            self.same(rule.terms, (
                ("ann", 7, 0), ("ann", 3, 1), ("bob", BIG, 0), ("bob", -2, 4), ("shop", 0, 2),
            ))
            self.same(rule.moments, ("ann", "bob", "cat", "shop"))
        self.same(RoundRule(terms=[("a", 1, 0)], moment="a").moments, ("a",))
        for name in NAMES:
            self.same(RoundRule(name, ((name, LOW, 4),)).terms, ((name, LOW, 4),))

    def test_equal(self):
        self.assertTrue(SECOND == RoundRule("b", (("a", 4, 0), ("b", 2, 1))))
        self.assertFalse(SECOND != RoundRule("b", (("a", 4, 0), ("b", 2, 1))))
        others = [
            RoundRule("a", [("b", 2, 1), ("a", 4, 0)]), RoundRule("b", [("b", 2, 1)]), FIRST,
            RoundRule("b", [("b", 2, 1), ("a", 5, 0)]), RoundRule("b", [("b", 2, 2), ("a", 4, 0)]),
            RoundRule("b", [("b", 2, 1), ("a", 4, 0), ("a", 4, 1)]), RoundRule("b", [("b", 2, 1), ("c", 4, 0)]),
            Rule("b", Term("a") + 4 | Term("b") + 2), str(SECOND), None, ("b", SECOND.terms),
        ]
        for other in others:
            self.assertFalse(SECOND == other)
            self.assertTrue(SECOND != other)
        self.assertFalse(RoundRule("a", [("b", 1, 0)]) == Rule("a", Term("b") + 1))

    def test_texts(self):
        self.same(str(SECOND), "rule b a+4 b+2@1")
        self.same(str(FIRST), "rule a b+3@1")
        rule = RoundRule("shop", [("b", 0, 1), ("b", 0, 0), ("b", -7, 4), ("ann", 0, 2), ("a", LOW, 3), ("a", BIG, 0)])
        self.same(str(rule), f"rule shop a+{BIG} a{LOW}@3 ann@2 b b@1 b-7@4")
        self.same(repr(FIRST), "RoundRule('a', [('b', 3, 1)])")
        self.same(repr(SECOND), "RoundRule('b', [('a', 4, 0), ('b', 2, 1)])")
        self.same(eval(repr(rule)), rule)

    def test_invalid_names(self):
        for wrong in NO_NAMES:
            self.fails(InvalidName, {"value": wrong}, RoundRule, wrong, None)
            self.fails(InvalidTerms, {"position": 0}, RoundRule, "a", [(wrong, 1, 0)])
            self.fails(InvalidTerms, {"position": 1}, RoundRule, "a", [("a", 1, 0), (wrong, 1, 0), None])
        self.same(RoundRule("a", [("a", 1, 0)]).moment, "a")

    def test_no_lists_of_terms(self):
        for wrong in NO_TERM_LISTS:
            self.fails(InvalidTerms, {"position": None}, RoundRule, "a", wrong)
        self.same(RoundRule("a", (("a", 1, 0),)).terms, (("a", 1, 0),))

    def test_wrong_terms_at_each_place(self):
        right = [("a", 1, 0), ("a", 1, 1), ("b", 1, 0), ("a", 1, 2), ("b", 1, 4)]
        for wrong in NO_TERMS:
            for place in range(6):
                passed = right[:place] + [wrong] + right[place:] + [wrong]
                self.fails(InvalidTerms, {"position": place}, RoundRule, "a", passed)
                self.fails(InvalidTerms, {"position": place}, RoundRule, "a", tuple(passed))
        for wrong in NO_INTEGERS:
            self.fails(InvalidTerms, {"position": 5}, RoundRule, "a", right + [("c", wrong, 0)])
            self.fails(InvalidTerms, {"position": 5}, RoundRule, "a", right + [("c", 0, wrong)])
        for back in range(5):
            self.same(RoundRule("a", [("b", 0, back)]).terms, (("b", 0, back),))

    def test_terms_that_stand_a_second_time(self):
        right = [("a", 1, 0), ("a", 1, 1), ("b", 1, 0)]
        for term in right:
            for shift in (1, 2, BIG):
                again = (term[0], shift, term[2])
                self.fails(InvalidTerms, {"position": 3}, RoundRule, "a", right + [again, None])
                self.fails(InvalidTerms, {"position": 1}, RoundRule, "a", [term, again])

    def test_limit(self):
        terms = [(moment, 1, back) for moment in "abcdefgh" for back in range(5)]
        self.same(len(RoundRule("a", terms[:8]).terms), 8)
        self.same(len(RoundRule("a", terms[::5]).terms), 8)
        self.same(RoundRule("a", terms[:8]).moments, ("a", "b"))
        for many in (9, 10, 40):
            self.fails(TooMany, {"what": "terms", "limit": 8}, RoundRule, "a", terms[:many])
            self.fails(InvalidTerms, {"position": many}, RoundRule, "a", terms[:many] + [("a", 1, 5)])
        self.fails(InvalidName, {"value": ""}, RoundRule, "", terms)

    def test_what_is_passed_can_be_changed(self):
        terms = [("b", 1, 0), ("a", 1, 0)]
        rule = RoundRule("a", terms)
        self.same(terms, [("b", 1, 0), ("a", 1, 0)])
        terms.clear()
        self.same(rule.terms, (("a", 1, 0), ("b", 1, 0)))


class PlanTest(Case):
    def test_parts(self):
        self.same(PLAN.moments, ("a", "b"))
        self.same(PLAN.rules(), [FIRST, SECOND])
        self.same(len(PLAN), 2)
        self.same((PLAN[0], PLAN[1]), (FIRST, SECOND))
        self.same(Plan(("a",)).rules(), [])
        self.same(Plan(rules=(FIRST, FIRST), moments=["c", "b", "a"]).rules(), [FIRST, FIRST])
        self.same(Plan(EIGHT[::-1]).moments, tuple(EIGHT))
        self.not_iterated(PLAN)
        self.not_iterated(Plan(["a"]))

    def test_positions(self):
        for wrong in NO_INTEGERS + [2, -1, BIG, LOW]:
            self.fails(InvalidPosition, {"value": wrong}, lambda at: PLAN[at], wrong)
        self.fails(InvalidPosition, {"value": 0}, lambda at: Plan(["a"])[at], 0)
        self.same(PLAN[1], SECOND)

    def test_in(self):
        self.same(FIRST in PLAN, True)
        self.same(RoundRule("b", [("a", 4, 0), ("b", 2, 1)]) in PLAN, True)
        for other in ODD_VALUES + [RoundRule("a", [("b", 3, 0)]), "rule a b+3@1", Rule("a", Term("b") + 3), 0, "a"]:
            self.same(other in PLAN, False)

    def test_equal(self):
        self.assertTrue(PLAN == Plan(("a", "b"), (FIRST, SECOND)))
        self.assertFalse(PLAN != Plan(("a", "b"), (FIRST, SECOND)))
        others = [
            Plan(["a", "b"], [SECOND, FIRST]), Plan(["a", "b", "c"], [FIRST, SECOND]), Plan(["a", "b"], [FIRST]),
            Plan(["a", "b"], [FIRST, SECOND, SECOND]), None, repr(PLAN), ["a", "b"], Plan(["a", "b"]),
        ]
        for other in others:
            self.assertFalse(PLAN == other)
            self.assertTrue(PLAN != other)
        self.assertFalse(Plan(["a"]) == Book(["a"]))
        self.assertFalse(Book(["a"]) == Plan(["a"]))

    def test_repr(self):
        told = "Plan(['a', 'b'], [RoundRule('a', [('b', 3, 1)]), RoundRule('b', [('a', 4, 0), ('b', 2, 1)])])"
        self.same(repr(PLAN), told)
        self.same(repr(Plan(("a",))), "Plan(['a'], [])")
        self.same(eval(told), PLAN)

    def test_invalid_moments(self):
        for wrong in [value for value in ODD_VALUES if value not in (["a"], ("a",))] + ["ab", 5, {"a": 1}]:
            self.fails(InvalidMoments, {"position": None}, Plan, wrong, None)
        for wrong in NO_NAMES:
            self.fails(InvalidMoments, {"position": 0}, Plan, [wrong], None)
            self.fails(InvalidMoments, {"position": 2}, Plan, ("a", "b", wrong, wrong), None)
        self.fails(InvalidMoments, {"position": 2}, Plan, ["a", "b", "a", 5], None)
        self.fails(InvalidMoments, {"position": 9}, Plan, [*EIGHT, "i", "a"], None)
        self.same(Plan(["a", "b"]).moments, ("a", "b"))

    def test_invalid_rules(self):
        for wrong in [value for value in ODD_VALUES if value not in ([], (), ["a"], ("a",))] + [5, "ab", FIRST]:
            self.fails(InvalidRules, {"position": None}, Plan, ["a", "b"], wrong)
        wrongs = ODD_VALUES + [
            Rule("a", Term("b") + 3), "rule a b", RoundRule("c", [("a", 1, 0)]), RoundRule("a", [("z", 1, 4)]),
            RoundRule("a", [("b", 1, 0), ("c", 1, 0)]),
        ]
        for wrong in wrongs:
            for place in range(3):
                passed = [FIRST, SECOND][:place] + [wrong] + [FIRST, SECOND][place:] + [wrong]
                self.fails(InvalidRules, {"position": place}, Plan, ["a", "b"], passed)
                self.fails(InvalidRules, {"position": place}, Plan, ["a", "b"], tuple(passed))
        self.same(Plan(["a", "b"], [FIRST, SECOND]), PLAN)

    def test_limits_and_the_sequence_of_the_errors(self):
        nine = [*EIGHT, "i"]
        self.fails(InvalidMoments, {"position": 9}, Plan, [*nine, "A"], None)
        self.fails(TooMany, {"what": "moments", "limit": 8}, Plan, nine, None)
        self.fails(TooMany, {"what": "moments", "limit": 8}, Plan, nine, [FIRST] * 31)
        self.fails(InvalidRules, {"position": 31}, Plan, EIGHT, [FIRST] * 31 + [None])
        self.fails(TooMany, {"what": "rules", "limit": 30}, Plan, EIGHT, [FIRST] * 31)
        self.fails(TooMany, {"what": "rules", "limit": 30}, Plan, EIGHT, (FIRST,) * 101)
        self.same(len(Plan(EIGHT, [FIRST] * 30)), 30)

    def test_what_is_passed_and_told_can_be_changed(self):
        moments, rules = ["b", "a"], [FIRST, SECOND]
        plan = Plan(moments, rules)
        self.same((moments, rules), (["b", "a"], [FIRST, SECOND]))
        moments.append("c")
        rules.reverse()
        self.same(plan, PLAN)
        plan.rules().clear()
        self.same(plan.rules(), [FIRST, SECOND])


class AtPaceTest(Case):
    def test_rule_by_rule(self):
        luck = chance(1)
        for size in (3, BIG):
            for _ in range(60):
                plan = some_plan(luck, "abcd", luck.randint(0, 8), 6, size)
                pace = (luck.randint(-size, size), luck.randint(1, 6))
                book = at_pace(plan, pace)
                self.assertIs(book.__class__, Book)
                self.same(book, book_at(plan, pace))
                self.same(at_pace(pace=pace, plan=plan), book)

    def test_terms_of_one_moment_are_put_together(self):
        plan = Plan(["a", "b"], [RoundRule("a", [("b", 5, 0), ("b", 8, 1), ("b", 9, 4), ("a", 0, 2)])])
        for pace, told in (((0, 1), {"a": 0, "b": 5}), ((3, 1), {"a": -6, "b": -3}), ((4, 2), {"a": -8, "b": 2}),
                           ((2, 1), {"a": -4, "b": 1}), ((-3, 1), {"a": 6, "b": 5}), ((1, 3), {"a": -2, "b": 15}),
                           ((BIG, 7), {"a": -2 * BIG, "b": 63 - 4 * BIG})):
            self.same(at_pace(plan, pace)[0], Rule("a", Earliest(told)))

    def test_the_document(self):
        self.same([str(rule) for rule in at_pace(PLAN, (2, 1)).rules()], ["rule a b+1", "rule b a+4 b"])
        self.same(at_pace(PLAN, (4, 2)).rules(), [Rule("a", Term("b") + 2), Rule("b", Term("a") + 8 | Term("b"))])

    def test_full_plans(self):
        luck = chance(2)
        plan = Plan(EIGHT, [some_round_rule(luck, EIGHT, 8, BIG) for _ in range(30)])
        self.same(at_pace(plan, (LOW, BIG)), book_at(plan, (LOW, BIG)))
        self.same(at_pace(Plan(["a"]), (0, 1)), Book(["a"]))

    def test_invalid_paces(self):
        for wrong in NO_PACES:
            self.fails(InvalidPace, {"value": wrong}, at_pace, PLAN, wrong)
        self.same(len(at_pace(PLAN, (0, 1))), 2)
