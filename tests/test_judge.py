"""Promise [92]: claims, whether they are true, and their certificates."""

from fractions import Fraction

from anyofthese.books import Book
from anyofthese.earliest import Earliest
from anyofthese.errors import InvalidClaim
from anyofthese.judge import certificate, is_certificate, is_claim, is_true
from anyofthese.paces import kind
from anyofthese.plans import Plan, RoundRule
from anyofthese.rules import Rule
from anyofthese.runs import Run
from anyofthese.terms import Term
from tests.papers import moved_papers, near, odd_papers, told_ban, told_bar, told_licence
from tests.samples import BIG, EIGHT, LOW, NO_INTEGERS, NO_NAMES, NO_PACES, ODD_VALUES, SHOP, Case
from tests.trials import (
    are_kept, book_at, chance, great_book, has_run_by_lifting, is_kept, kind_by_choices, lifted_often, runs_in_box,
    some_book, some_plan, some_rule, some_run, told_refusal, told_why,
)

STUCK = Book(["a", "b"], [Rule("a", Term("b") + 3), Rule("b", Term("a") - 2), Rule("b", Term("a") - 4)])
PLAN = Plan(["a", "b"], [RoundRule("a", [("b", 3, 1)]), RoundRule("b", [("a", 4, 0), ("b", 2, 1)])])
NONE = Plan(["a", "b"], [RoundRule("a", [("b", 1, 0)]), RoundRule("b", [("a", 0, 0)])])
ANY = Plan(["a", "b"], [RoundRule("a", [("b", 1, 0), ("a", 5, 1)]), RoundRule("b", [("a", -1, 0)])])
FLOORS = Run.of(shop=0, ann=0, bob=20, bus=2)
LEAST = Run.of(shop=7, ann=7, bob=20, bus=2)
GOAL = Rule("shop", Term("bus") + 5)

TRUE = [
    ("runs", SHOP), ("stuck", STUCK), ("follows", SHOP, GOAL), ("follows", STUCK, Rule("a", Term("a") + 1)),
    ("open", SHOP, GOAL + 1), ("least", SHOP, FLOORS, LEAST), ("gap", SHOP, "shop", "bus", 5),
    ("gap", SHOP, "ann", "ann", 0), ("loose", SHOP, "bus", "shop"), ("paced", PLAN, (2, 1)), ("paced", ANY, (LOW, 7)),
    ("slowest", PLAN, (2, 1)), ("slowest", PLAN, (4, 2)), ("slowest", PLAN, (LOW, 3)), ("banned", NONE), ("free", ANY),
]
FALSE = [
    ("runs", STUCK), ("stuck", SHOP), ("follows", SHOP, GOAL + 1), ("open", SHOP, GOAL),
    ("open", STUCK, Rule("a", Term("b"))), ("least", SHOP, FLOORS, LEAST + 1),
    ("least", SHOP, FLOORS, LEAST.with_time("shop", 6)), ("least", STUCK, Run.of(a=0, b=0), Run.of(a=0, b=0)),
    ("gap", SHOP, "shop", "bus", 4), ("gap", SHOP, "ann", "ann", 1), ("gap", STUCK, "a", "b", 3),
    ("loose", SHOP, "shop", "bus"), ("loose", STUCK, "a", "b"), ("loose", SHOP, "ann", "ann"), ("paced", PLAN, (1, 1)),
    ("paced", NONE, (BIG, 1)), ("slowest", PLAN, (5, 2)), ("slowest", NONE, (0, 1)), ("slowest", NONE, (LOW, 1)),
    ("slowest", ANY, (LOW, 1)), ("slowest", ANY, (0, 1)), ("banned", PLAN), ("banned", ANY), ("banned", Plan(["a"])),
    ("free", PLAN), ("free", NONE), ("free", Plan(["a"], [RoundRule("a", [("a", 0, 1)])])),
]

# Parts that cannot stand for those of each kind, in claims about SHOP and PLAN.
WRONG = {
    Book: [PLAN, Plan(["ann"]), "moments ann\n", None, ["ann"], Rule],
    Plan: [SHOP, STUCK, None, "moments a\n", ["a"], Plan],
    Rule: ODD_VALUES + [
        Rule("zoe", Term("ann")), Rule("ann", Term("zoe")), "rule ann bob", RoundRule("ann", [("bob", 0, 0)]),
        Rule("shop", Earliest.of(ann=0, zoe=1)), Term("bus"),
    ],
    Run: ODD_VALUES + [{"ann": 0, "bob": 0, "bus": 0, "shop": 0}, LEAST.only(["ann", "bob", "bus"]),
                       Run.of(ann=0, bob=0, bus=0, shop=0, zoe=0), Run.of(ann=0, bob=0, bus=0, zoe=0)],
    str: NO_NAMES + ["zoe", "an"],
    int: NO_INTEGERS,
    tuple: NO_PACES,
}


def told(claim, value):
    """Whether the value is a certificate of the claim, by the conditions of the document, line by line."""
    word, about, *rest = claim
    if word in ("runs", "open", "gap"):
        return value.__class__ is Run and value.moments == about.moments and are_kept(about, value.times()) and (
            word == "runs" or word == "open" and not is_kept(rest[0], value.times())
            or word == "gap" and value[rest[0]] - value[rest[1]] == rest[2])
    if word == "stuck":
        return told_refusal(about.moments, about.rules(), value)
    if word == "follows":
        return told_refusal(about.moments, about.rules() + rest[0].contrary(), value)
    if word == "least":
        ahead = all(rest[1][moment] >= rest[0][moment] for moment in about.moments)
        return ahead and are_kept(about, rest[1].times()) and told_why(about, rest[0], rest[1].times(), value)
    if word == "loose":
        return told_loose(about, *rest, *value)
    if word == "paced":
        return value.moments == about.moments and are_kept(book_at(about, rest[0]), value.times())
    if word == "slowest":
        return told_bar(about, rest[0], value[0]) and are_kept(book_at(about, value[1]), value[2].times())
    return told_ban(about, value) if word == "banned" else told_licence(about, value)


def told_loose(book, a, b, run, moments):
    if not are_kept(book, run.times()) or list(moments) != sorted(set(moments)) or a not in moments or b in moments:
        return False
    for rule in book.rules():
        shifts = rule.earliest.shifts()
        if rule.moment in moments and not any(
                run[rule.moment] >= run[by] + shifts[by] for by in shifts if by in moments):
            return False
    return set(moments) <= set(book.moments)


class ClaimTest(Case):
    def test_each_word_with_valid_parts(self):
        for claim in TRUE + FALSE:
            self.same(is_claim(claim), True)
            self.same(is_claim(value=claim), True)
        self.assertEqual(len({claim[0] for claim in TRUE}), 11)
        self.assertEqual({claim[0] for claim in TRUE}, {claim[0] for claim in FALSE})

    def no_claim(self, value):
        self.same(is_claim(value), False)
        self.fails(InvalidClaim, {"value": value}, is_true, value)
        self.fails(InvalidClaim, {"value": value}, certificate, value)
        self.fails(InvalidClaim, {"value": value}, is_certificate, value, None)

    def test_a_part_otherwise(self):
        for claim in TRUE:
            if claim[1] in (SHOP, PLAN):
                for place in range(1, len(claim)):
                    for wrong in WRONG[claim[place].__class__]:
                        self.no_claim((*claim[:place], wrong, *claim[place + 1:]))
            self.same(is_true(claim), True)

    def test_a_part_more_or_less(self):
        for claim in TRUE + FALSE:
            for more in (None, 0, "ann", SHOP, PLAN, (1, 1), LEAST, GOAL):
                self.no_claim((*claim, more))
            for place in range(len(claim)):
                self.no_claim((*claim[:place], *claim[place + 1:]))
            self.no_claim(list(claim))
            self.no_claim((claim,))
            self.no_claim({place: part for place, part in enumerate(claim)})
            self.no_claim(claim[::-1])

    def test_another_word(self):
        takes = {}
        for claim in TRUE:
            takes.setdefault(tuple(part.__class__ for part in claim), set()).add(claim[0])
        for claim in TRUE:
            words = [other[0] for other in TRUE] + ["Runs", "", "run", "runs ", " runs", "kind", "a"]
            for word in words + [None, True, 0, b"runs", ("runs",), ["runs"], {}, SHOP]:
                value = (word, *claim[1:])
                if isinstance(word, str) and word in takes[tuple(part.__class__ for part in claim)]:
                    self.same(is_claim(value), True)
                else:
                    self.no_claim(value)

    def test_other_values(self):
        for value in ODD_VALUES + ["runs", 5, "", ("runs",), ("zoe", SHOP), (SHOP,), (SHOP, "runs"), [("runs", SHOP)]]:
            self.no_claim(value)
        self.same(is_claim(("runs", Book(["a"]))), True)

    def test_books_and_plans_are_not_mixed_up(self):
        book, plan = Book(["a", "b"]), Plan(["a", "b"])
        run = Run.of(a=0, b=0)
        rule = Rule("a", Term("b"))
        for claim in (("runs", book), ("stuck", book), ("follows", book, rule), ("loose", book, "a", "b"),
                      ("open", book, rule), ("least", book, run, run), ("gap", book, "a", "b", 1)):
            self.same(is_claim(claim), True)
            self.no_claim((claim[0], plan, *claim[2:]))
        for claim in (("paced", plan, (1, 1)), ("slowest", plan, (1, 1)), ("banned", plan), ("free", plan)):
            self.same(is_claim(claim), True)
            self.no_claim((claim[0], book, *claim[2:]))


class TruthTest(Case):
    def right(self, claim, wanted):
        """The claim is true just as it is wanted; what is told for a true one is a certificate."""
        self.same(is_true(claim), wanted)
        paper = certificate(claim)
        self.same(certificate(claim=claim), paper)
        if wanted:
            self.assertTrue(told(claim, paper), (claim, paper))
            self.same(is_certificate(claim, paper), True)
            self.same(is_certificate(value=paper, claim=claim), True)
        else:
            self.same(paper, None)
        self.same(is_certificate(claim, None), False)

    def test_one_of_each(self):
        for claim in TRUE:
            self.right(claim, True)
        for claim in FALSE:
            self.right(claim, False)

    def test_small_books(self):
        luck = chance(1)
        found = {}
        for _ in range(150):
            names = "abc"[:luck.randint(1, 3)]
            book = some_book(luck, names, luck.randint(0, 5), 2, 2)
            # All runs that are needed: no end of a span is further than 4, and 10 apart is as good as any.
            runs = runs_in_box(book, 12)
            rule = some_rule(luck, names, 2, 2)
            a, b = luck.choice(names), luck.choice(names)
            gap = luck.randint(-3, 3)
            floors = Run({moment: luck.randint(0, 3) for moment in names})
            least = lifted_often(book, floors)
            kept = all(is_kept(rule, times) for times in runs)
            rows = [
                (("runs", book), len(runs) > 0), (("stuck", book), not runs), (("follows", book, rule), kept),
                (("open", book, rule), not kept),
                (("gap", book, a, b, gap), any(times[a] - times[b] == gap for times in runs)),
                (("loose", book, a, b), any(times[a] - times[b] == -10 for times in runs)),
                (("least", book, floors, floors), least == floors.times()),
            ]
            if least is not None:
                rows.append((("least", book, floors, Run(least)), True))
                rows.append((("least", book, floors, Run(least) + 1), False))
            for claim, wanted in rows:
                self.right(claim, wanted)
                found[claim[0], wanted] = found.get((claim[0], wanted), 0) + 1
        self.assertEqual(len(found), 14)
        self.assertGreater(min(found.values()), 15, found)

    def test_small_plans(self):
        luck = chance(2)
        found = {}
        for _ in range(400):
            plan = some_plan(luck, "abc"[:luck.randint(1, 3)], luck.randint(0, 5), 3, 2)
            wanted = kind_by_choices(plan)
            paces = [(luck.randint(-4, 4), luck.randint(1, 3)), (LOW * 9, 1), (BIG * 9, 1)]
            if wanted[0] == "least":
                paces += [wanted[1], near(wanted[1], BIG, 1), near(wanted[1], BIG, -1), near(wanted[1], 7, 0)]
            rows = [(("banned", plan), wanted == ("none",)), (("free", plan), wanted == ("any",))]
            for pace in paces:
                least = Fraction(*wanted[1]) if wanted[0] == "least" else None
                at_least = wanted == ("any",) or least is not None and Fraction(*pace) >= least
                rows.append((("paced", plan, pace), at_least))
                rows.append((("slowest", plan, pace), least is not None and Fraction(*pace) <= least))
            for claim, truth in rows:
                self.right(claim, truth)
                found[claim[0], truth] = found.get((claim[0], truth), 0) + 1
        self.assertEqual(len(found), 8)
        self.assertGreater(min(found.values()), 15, found)

    def test_great_ones(self):
        luck = chance(3)
        for rules in (9, 40, 100):
            book = great_book(luck, rules)
            floors = some_run(luck, EIGHT, BIG)
            rule = some_rule(luck, EIGHT, 3, BIG)
            self.assertTrue(has_run_by_lifting(EIGHT, []))
            self.right(("runs", book), True)
            self.right(("stuck", book), False)
            self.assertNotEqual(is_true(("follows", book, rule)), is_true(("open", book, rule)))
            self.right(("follows", book, rule), is_true(("follows", book, rule)))
            self.right(("open", book, rule), is_true(("open", book, rule)))
            self.right(("least", book, floors, floors), False)
        for _ in range(10):
            plan = some_plan(luck, EIGHT, 30, luck.randint(1, 8), BIG)
            told_kind = kind(plan)
            self.right(("banned", plan), told_kind == ("none",))
            self.right(("free", plan), told_kind == ("any",))
            for pace in ((LOW, 7), (BIG, 5)) + told_kind[1:]:
                self.right(("paced", plan, pace), is_true(("paced", plan, pace)))
                self.right(("slowest", plan, pace), is_true(("slowest", plan, pace)))


class CertificateTest(Case):
    def test_only_of_true_claims(self):
        papers = [certificate(claim) for claim in TRUE]
        for claim in FALSE:
            for paper in papers + ODD_VALUES:
                self.same(is_certificate(claim, paper), False)

    def test_other_values(self):
        for claim in TRUE:
            for value in ODD_VALUES + [0, 1, "", [[]], [()], ((), ()), [("a", None)], {"a": (0, 0)}, claim]:
                if not (claim[0] == "runs" and value == certificate(claim)):
                    self.same(is_certificate(claim, value), False)

    def test_runs(self):
        run = LEAST
        for claim in (("runs", SHOP), ("gap", SHOP, "shop", "bus", 5)):
            for good in (run, run + 1, run + BIG, run + LOW):
                self.same(is_certificate(claim, good), True)
            for bad in (run.times(), run.only(["ann", "bus", "shop"]), Run({**run.times(), "zoe": 1}), [run], (run,),
                        run.with_time("ann", 6), Run.of(a=0), Run.of(ann=7, bob=20, bus=2, shops=7)):
                self.same(is_certificate(claim, bad), False)
        self.same(is_certificate(("gap", SHOP, "shop", "bus", 6), run), False)
        self.same(is_certificate(("gap", SHOP, "shop", "bus", 6), run.with_time("shop", 8)), True)
        goal = ("open", SHOP, GOAL + 1)
        self.same(is_certificate(goal, run), True)
        self.same(is_certificate(goal, run.with_time("shop", 8)), False)
        self.same(is_certificate(goal, run.with_time("ann", 6)), False)
        self.same(is_certificate(goal, run.only(["bus", "shop"])), False)
        paced = ("paced", PLAN, (2, 1))
        for good in (Run.of(a=1, b=0), Run.of(a=1 + BIG, b=BIG)):
            self.same(is_certificate(paced, good), True)
        for bad in (Run.of(a=0, b=0), Run.of(a=1), Run.of(a=1, b=0, c=0), {"a": 1, "b": 0}, (1, 0), Run.of(a=1, c=0)):
            self.same(is_certificate(paced, bad), False)

    def test_least(self):
        paper = [("bus", None), ("bob", None), ("ann", 1), ("shop", 0)]
        claim = ("least", SHOP, FLOORS, LEAST)
        self.same(is_certificate(claim, paper), True)
        self.same(is_certificate(claim, tuple(paper)), True)
        self.same(is_certificate(("least", SHOP, FLOORS + 3, LEAST + 3), paper), True)
        for bad in (paper[::-1], paper[:3], paper + [("bob", None)], [list(line) for line in paper], dict(paper)):
            self.same(is_certificate(claim, bad), False)
        others = [LEAST.with_time("bob", 19), LEAST.with_time("shop", 8), LEAST.with_time("bus", 1)]
        for run in [LEAST + 1, LEAST - 1] + others:
            self.same(is_certificate(("least", SHOP, FLOORS, run), paper), False)

    def test_refusals_and_reasons(self):
        paper = {"a": (0, 5), "b": (1, 0)}
        self.same(is_certificate(("stuck", STUCK), paper), True)
        self.same(is_certificate(("stuck", STUCK), {"b": (1, 0), "a": (0, 5)}), True)
        self.same(is_certificate(("follows", STUCK, Rule("a", Term("b"))), paper), True)
        for bad in odd_papers(paper) + [{"a": (0, 0), "b": (1, 0)}, {"a": (0, 5), "b": (2, 0)}, {"a": (0, 5)}]:
            self.same(is_certificate(("stuck", STUCK), bad), False)
        reason = certificate(("follows", SHOP, GOAL))
        for bad in odd_papers(reason):
            self.same(is_certificate(("follows", SHOP, GOAL), bad), False)
        for moved in moved_papers(reason, BIG):
            self.assertEqual(is_certificate(("follows", SHOP, GOAL), moved), all(
                0 <= line[0] < 4 for line in moved.values()) and told(("follows", SHOP, GOAL), moved))

    def test_loose_ends(self):
        claim = ("loose", SHOP, "bus", "shop")
        self.same(is_certificate(claim, (LEAST, ("bus",))), True)
        self.same(is_certificate(claim, (LEAST, ("ann", "bus"))), True)
        for bad in ([LEAST, ("bus",)], (LEAST, ["bus"]), (LEAST, ("bus", "ann")), (LEAST, ()), (LEAST, ("bus", "shop")),
                    (LEAST.times(), ("bus",)), (LEAST, ("bus",), 0), (LEAST,), (LEAST, ("ann",)), (LEAST, "bus"),
                    (LEAST.with_time("ann", 6), ("bus",)), (LEAST, ("bus", "bus")), (LEAST, ("bus", "zoe")),
                    (LEAST.only(["bus"]), ("bus",))):
            self.same(is_certificate(claim, bad), False)

    def test_slowest(self):
        lines = {"a": (0, 0, 0), "b": (1, 0, 0)}
        run = Run.of(a=1, b=0)
        claim = ("slowest", PLAN, (2, 1))
        for good in ((lines, (2, 1), run), (lines, (2, 1), run + BIG), (lines, (4, 2), Run.of(a=2, b=0)),
                     (lines, (9, 1), Run.of(a=0, b=0))):
            self.same(is_certificate(claim, good), True)
        wrongs = [
            [lines, (2, 1), run], (lines, [2, 1], run), (lines, (2, 1)), (lines, (2, 1), run, 0), (lines, (1, 1), run),
            (lines, (2, 1), run.times()), (lines, (2, 1), Run.of(a=0, b=0)), (lines, (2, 0), run),
            (None, (2, 1), run), (lines, (2, True), run), (lines, (2, 1), Run.of(a=1)), (lines, (2, 1), None),
            (lines, (2, 1), Run.of(a=1, b=0, c=0)), ({"a": (0, 0, 0)}, (2, 1), run), (run, (2, 1), lines), lines,
            (lines, None, run),
        ]
        for bad in wrongs:
            self.same(is_certificate(claim, bad), False)
        for paper in odd_papers(lines):
            self.same(is_certificate(claim, (paper, (2, 1), run)), False)
        self.same(is_certificate(("slowest", PLAN, (5, 2)), (lines, (5, 2), Run.of(a=0, b=0))), False)
        self.same(is_certificate(("slowest", PLAN, (1, 1)), (lines, (2, 1), run)), True)

    def test_bans_and_licences(self):
        banned, free = certificate(("banned", NONE)), certificate(("free", ANY))
        for claim, paper in ((("banned", NONE), banned), (("free", ANY), free)):
            for bad in odd_papers(paper):
                self.same(is_certificate(claim, bad), False)
            for moved in moved_papers(paper, 3):
                right = claim[0] == "free" or all(0 <= line[0] < 2 for line in moved.values())
                self.same(is_certificate(claim, moved), right and told(claim, moved))
        self.same(is_certificate(("free", PLAN), free), False)
        self.same(is_certificate(("banned", ANY), banned), False)

    def test_what_is_told_is_new(self):
        for claim in TRUE:
            paper = certificate(claim)
            if isinstance(paper, (dict, list)):
                paper.clear()
                self.assertTrue(told(claim, certificate(claim)))
            if isinstance(paper, tuple) and isinstance(paper[0], dict):
                paper[0].clear()
                self.assertTrue(told(claim, certificate(claim)))
