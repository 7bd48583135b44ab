"""Promises [82], [83] and [85]: timetables, the kind of a plan and its least pace, and plans that are played."""

from fractions import Fraction

from anyofthese.errors import BackNeeded, InvalidCount, InvalidPace, OtherMoments
from anyofthese.paces import is_timetable, kind, played, timetable
from anyofthese.plans import Plan, RoundRule
from anyofthese.refusals import has_run
from anyofthese.runs import Run
from tests.papers import near, times_by_number
from tests.samples import BIG, EIGHT, LOW, NO_INTEGERS, NO_PACES, Case
from tests.trials import (
    are_kept, book_at, chance, kind_by_choices, rings, some_plan, some_round_rule, some_run, zeros,
)

# The plan of the document's examples, one without a pace, and one with each.
PLAN = Plan(["a", "b"], [RoundRule("a", [("b", 3, 1)]), RoundRule("b", [("a", 4, 0), ("b", 2, 1)])])
NONE = Plan(["a", "b"], [RoundRule("a", [("b", 1, 0)]), RoundRule("b", [("a", 0, 0)])])
ANY = Plan(["a", "b"], [RoundRule("a", [("b", BIG, 0), ("a", 5, 1)]), RoundRule("b", [("a", -BIG, 0)])])


def keeps_round(plan, run, pace, i):
    """Whether the times that the run gives at the pace keep the plan in the round i, as fractions."""
    top, bottom = pace

    def time(moment, j):
        return Fraction(run[moment] + j * top, bottom)

    return all(
        time(rule.moment, i) >= min(time(moment, i - back) + shift for moment, shift, back in rule.terms)
        for rule in plan.rules())


class TimetableTest(Case):
    def right(self, plan, pace):
        """What is told for the pace is right; whether there is a timetable."""
        run = timetable(plan, pace)
        self.same(timetable(plan, pace), run)
        self.assertEqual(run is not None, has_run(book_at(plan, pace)))
        if run is None:
            return False
        self.assertIs(run.__class__, Run)
        self.same(run.moments, plan.moments)
        self.assertTrue(are_kept(book_at(plan, pace), run.times()))
        self.same(is_timetable(plan, pace, run), True)
        for i in (0, 1, -1, 2, 7, -13, 300, BIG, LOW):
            self.assertTrue(keeps_round(plan, run, pace, i))
        return True

    def test_by_chance(self):
        luck = chance(1)
        found = {True: 0, False: 0}
        for size in (3, 3, BIG):
            for _ in range(120):
                names = "abcd"[:luck.randint(1, 4)]
                plan = some_plan(luck, names, luck.randint(0, 6), 3, size)
                pace = (luck.randint(-size, size), luck.randint(1, 5))
                told = self.right(plan, pace)
                for number in (2, 3, 10 ** 40):
                    self.assertEqual(self.right(plan, (pace[0] * number, pace[1] * number)), told)
                for more in (1, size, BIG):
                    if told:
                        self.assertTrue(self.right(plan, (pace[0] + more, pace[1])))
                    else:
                        self.assertFalse(self.right(plan, (pace[0] - more, pace[1])))
                found[told] += 1
        self.assertGreater(min(found.values()), 60)

    def test_is_timetable(self):
        luck = chance(2)
        found = {True: 0, False: 0}
        for _ in range(200):
            plan = some_plan(luck, "abc", luck.randint(0, 4), 3, 3)
            pace = (luck.randint(-2, 6), luck.randint(1, 3))
            run = some_run(luck, "abc", 6)
            wanted = all(keeps_round(plan, run, pace, i) for i in (-3, 0, 5))
            self.same(is_timetable(plan, pace, run), wanted)
            self.same(is_timetable(plan, pace, run + BIG), wanted)
            double = Run({moment: 2 * run[moment] for moment in run.moments})
            self.same(is_timetable(plan, (2 * pace[0], 2 * pace[1]), double), wanted)
            found[wanted] += 1
        self.assertGreater(min(found.values()), 30)

    def test_the_document(self):
        self.same(is_timetable(PLAN, (2, 1), Run.of(a=1, b=0)), True)
        self.same(is_timetable(run=Run.of(a=0, b=0), pace=(2, 1), plan=PLAN), False)
        self.same(is_timetable(PLAN, (2, 1), Run.of(a=1, b=0) + LOW), True)
        self.same(is_timetable(PLAN, (1, 1), Run.of(a=1, b=0)), False)
        self.same(timetable(pace=(1, 1), plan=PLAN), None)
        self.assertTrue(self.right(PLAN, (2, 1)))

    def test_errors(self):
        for wrong in NO_PACES:
            self.fails(InvalidPace, {"value": wrong}, timetable, PLAN, wrong)
            self.fails(InvalidPace, {"value": wrong}, is_timetable, PLAN, wrong, Run.of(z=0))
        for other in (Run.of(a=0), Run.of(a=0, b=0, c=0), Run.of(a=0, c=0)):
            told = {"one": ("a", "b"), "other": other.moments}
            self.fails(OtherMoments, told, is_timetable, PLAN, (2, 1), other)
        self.same(is_timetable(PLAN, (2, 1), timetable(PLAN, (2, 1))), True)


class KindTest(Case):
    def right(self, plan, wanted):
        """The kind is this one, and timetables tell the same."""
        told = kind(plan)
        self.same(told, wanted)
        self.same(kind(plan=plan), told)
        if told[0] == "least":
            self.assertTrue(has_run(book_at(plan, told[1])))
            self.assertFalse(has_run(book_at(plan, near(told[1], BIG, -1))))
            self.assertFalse(has_run(book_at(plan, near(told[1], 99, -1))))
            self.assertTrue(has_run(book_at(plan, near(told[1], BIG, 1))))
            self.same(is_timetable(plan, told[1], timetable(plan, told[1])), True)
        else:
            for pace in ((LOW * 10, 1), (0, 1), (BIG * 10, 1)):
                self.assertEqual(has_run(book_at(plan, pace)), told == ("any",))

    def test_against_all_choices_and_rings(self):
        luck = chance(3)
        found = {"any": 0, "none": 0, "least": 0, "below": 0, "zero": 0, "fraction": 0, "back": 0}
        for _ in range(1200):
            plan = some_plan(luck, "abcd"[:luck.randint(1, 4)], luck.randint(0, 6), 3, luck.choice((1, 3, 7)))
            wanted = kind_by_choices(plan)
            self.right(plan, wanted)
            found[wanted[0]] += 1
            if wanted[0] == "least":
                top, bottom = wanted[1]
                found["below"] += top < 0
                found["zero"] += (top, bottom) == (0, 1)
                found["fraction"] += bottom > 1
                found["back"] += bottom > 4
        self.assertGreater(min(found.values()), 20, found)

    def test_one_of_each(self):
        self.right(PLAN, ("least", (2, 1)))
        self.right(NONE, ("none",))
        self.right(ANY, ("any",))
        for shift, back, pace in ((6, 4, (3, 2)), (-6, 4, (-3, 2)), (0, 3, (0, 1)), (BIG, 1, (BIG, 1)), (LOW, 3, None)):
            wanted = pace or (Fraction(LOW, 3).numerator, Fraction(LOW, 3).denominator)
            self.right(Plan(["a"], [RoundRule("a", [("a", shift, back)])]), ("least", wanted))
        rows = [
            ([("a", 0, 0)], ("any",)), ([("a", 1, 0)], ("none",)), ([("a", -1, 0), ("a", 9, 1)], ("any",)),
            ([("a", 1, 0), ("a", 9, 2)], ("least", (9, 2))), ([("b", 5, 0)], ("any",)),
            ([("a", 7, 3), ("a", 5, 2), ("a", 9, 4)], ("least", (9, 4))),
        ]
        for terms, wanted in rows:
            self.right(Plan(["a", "b"], [RoundRule("a", terms)]), wanted)

    def test_long_rings(self):
        for back in (1, 2, 3, 4):
            rules = [RoundRule(left, [(by, 1, back)]) for left, by in zip(EIGHT, EIGHT[1:] + EIGHT[:1])]
            self.right(Plan(EIGHT, rules), ("least", (1, back)))
            odd = rules[:7] + [RoundRule("h", [("a", BIG, back)])]
            top = Fraction(BIG + 7, 8 * back)
            self.right(Plan(EIGHT, odd), ("least", (top.numerator, top.denominator)))
        # Of two rings, whose paces are as near to one another as can be, the greater one counts.
        first = [RoundRule(left, [(by, 4, 4)]) for left, by in zip(EIGHT, EIGHT[1:])]
        last = [("a", 3, 4), ("a", 1, 3)]
        self.right(Plan(EIGHT, first + [RoundRule("h", last[:1])]), ("least", (31, 32)))
        self.right(Plan(EIGHT, first + [RoundRule("h", [("a", 2, 3)])]), ("least", (30, 31)))
        both = [RoundRule("h", last[:1]), RoundRule("h", [("a", 2, 3)])]
        self.right(Plan(EIGHT, first + both), ("least", (31, 32)))
        self.right(Plan(EIGHT, first + both[::-1]), ("least", (31, 32)))
        self.right(Plan(EIGHT, first + [RoundRule("h", [("a", 3, 4), ("a", 2, 3)])]), ("least", (30, 31)))

    def test_the_same_written_otherwise(self):
        luck = chance(4)
        for _ in range(60):
            plan = some_plan(luck, "abcd", luck.randint(1, 5), 3, 3)
            wanted = kind_by_choices(plan)
            rules = plan.rules()
            luck.shuffle(rules)
            self.right(Plan("dcba".replace("", " ").split(), rules), wanted)
            self.right(Plan(plan.moments, plan.rules() + rules), wanted)
            names = {"a": "zoe", "b": "a", "c": "m", "d": "abcdefgh"}
            renamed = [
                RoundRule(names[rule.moment], [(names[moment], shift, back) for moment, shift, back in rule.terms])
                for rule in plan.rules()
            ]
            self.right(Plan(list(names.values()), renamed), wanted)

    def test_shifts_times_a_number(self):
        luck = chance(5)
        number = 10 ** 50 + 151
        for _ in range(120):
            plan = some_plan(luck, "abcd", luck.randint(1, 6), 3, 4)
            wanted = kind_by_choices(plan)
            if wanted[0] == "least":
                pace = Fraction(*wanted[1]) * number
                wanted = ("least", (pace.numerator, pace.denominator))
            self.right(times_by_number(plan, number), wanted)

    def test_plans_without_rules(self):
        self.right(Plan(["a"]), ("any",))
        self.right(Plan(EIGHT), ("any",))

    def test_eight_moments_and_thirty_rules(self):
        luck = chance(6)
        found = {}
        for backs in ((0, 0, 0, 1, 2, 3, 4), (1, 2, 3, 4), (0, 0, 0, 0, 0, 0, 0, 4)):
            for most in (1, 2, 2, 3, 8):
                for many in (10, 30):
                    plan = some_plan(luck, EIGHT, many, most, 10 ** 59, backs)
                    told = kind(plan)
                    self.right(plan, told)
                    found[told[0]] = found.get(told[0], 0) + 1
        self.assertEqual(len(found), 3)

    def test_a_great_plan_against_its_rings(self):
        luck = chance(7)
        for _ in range(10):
            rules = [some_round_rule(luck, EIGHT, 1, BIG, (1, 2, 3, 4)) for _ in range(14)]
            steps = [(rule.moment, *term) for rule in rules for term in rule.terms]
            paces = [
                Fraction(sum(step[0] for step in ring), sum(step[1] for step in ring)) for ring in rings(EIGHT, steps)
            ]
            wanted = ("least", (max(paces).numerator, max(paces).denominator)) if paces else ("any",)
            self.right(Plan(EIGHT, rules), wanted)


class PlayedTest(Case):
    def by_hand(self, plan, start, rounds):
        """The times of the rounds 1, 2, .. by the words of [85]."""
        times = {i: start.times() for i in range(-4, 1)}
        for i in range(1, rounds + 1):
            times[i] = {}
            for moment in plan.moments:
                values = [
                    min(times[i - back][other] + shift for other, shift, back in rule.terms)
                    for rule in plan.rules() if rule.moment == moment
                ]
                times[i][moment] = max([times[i - 1][moment]] + values)
        return [Run(times[i]) for i in range(1, rounds + 1)]

    def test_round_by_round(self):
        luck = chance(8)
        for size in (3, BIG):
            for _ in range(60):
                names = "abcd"[:luck.randint(1, 4)]
                plan = some_plan(luck, names, luck.randint(0, 6), 3, size, (1, 1, 2, 3, 4))
                start = some_run(luck, names, size)
                told = played(plan, start, 12)
                self.same(told, self.by_hand(plan, start, 12))
                self.assertTrue(all(run.__class__ is Run for run in told))
                self.same(played(plan, start + BIG, 12), [run + BIG for run in told])
                for fewer in (0, 1, 5, 11):
                    self.same(played(plan, start, fewer), told[:fewer])
                told.clear()
                self.same(len(played(plan, start, 12)), 12)

    def test_the_document(self):
        plan = Plan(["a", "b"], [RoundRule("a", [("b", 3, 1)]), RoundRule("b", [("a", 1, 2)])])
        wanted = [Run.of(a=3, b=1), Run.of(a=4, b=1), Run.of(a=4, b=4)]
        self.same(played(plan, Run.of(a=0, b=0), 3), wanted)
        self.same(played(rounds=3, start=Run.of(a=0, b=0), plan=plan), wanted)

    def test_backs_up_to_four(self):
        for back in (1, 2, 3, 4):
            plan = Plan(["a", "b"], [RoundRule("a", [("b", 10, back)]), RoundRule("b", [("b", 1, 1)])])
            told = played(plan, Run.of(a=0, b=0), 9)
            self.same([run["b"] for run in told], [1, 2, 3, 4, 5, 6, 7, 8, 9])
            self.same([run["a"] for run in told], [10 + max(0, i - back) for i in range(1, 10)])

    def test_times_never_go_down(self):
        plan = Plan(["a"], [RoundRule("a", [("a", -5, 1)])])
        self.same(played(plan, Run.of(a=7), 3), [Run.of(a=7)] * 3)
        self.same(played(Plan(["a"]), Run.of(a=LOW), 2), [Run.of(a=LOW)] * 2)

    def test_three_hundred_rounds(self):
        luck = chance(9)
        plan = some_plan(luck, EIGHT, 30, 8, BIG, (1, 2, 3, 4))
        start = some_run(luck, EIGHT, BIG)
        told = played(plan, start, 300)
        self.same(told, self.by_hand(plan, start, 300))
        self.same(played(plan, start, 299), told[:299])

    def test_invalid_counts(self):
        plan = Plan(["a"], [RoundRule("a", [("a", 1, 0)])])
        for wrong in NO_INTEGERS + [301, 302, BIG, -1, LOW]:
            self.fails(InvalidCount, {"value": wrong}, played, plan, Run.of(a=0), wrong)
        self.same(played(Plan(["a"]), Run.of(a=0), 0), [])
        self.same(len(played(Plan(["a"]), Run.of(a=0), 300)), 300)

    def test_backs_that_are_needed(self):
        rows = [
            ([[("a", 1, 0)]], 0), ([[("a", 1, 1)], [("a", 1, 2), ("b", 1, 0)]], 1),
            ([[("a", 1, 4)], [("a", 1, 1), ("b", 1, 3)], [("a", 0, 1), ("a", 0, 0)], [("b", 1, 0)]], 2),
        ]
        for rules, position in rows:
            plan = Plan(["a", "b"], [RoundRule("b", terms) for terms in rules])
            for rounds in (0, 1, 300):
                self.fails(BackNeeded, {"position": position}, played, plan, Run.of(a=0, b=0), rounds)
            self.same(len(played(Plan(["a", "b"], plan.rules()[:position]), Run.of(a=0, b=0), 2)), 2)

    def test_the_sequence_of_the_errors(self):
        plan = Plan(["a", "b"], [RoundRule("b", [("a", 1, 0)])])
        for other in (Run.of(a=0), Run.of(a=0, b=0, c=0)):
            told = {"one": ("a", "b"), "other": other.moments}
            self.fails(OtherMoments, told, played, plan, other, 301)
        self.fails(InvalidCount, {"value": 301}, played, plan, Run.of(a=0, b=0), 301)
        self.fails(BackNeeded, {"position": 0}, played, plan, Run.of(a=0, b=0), 300)

    def test_each_round_is_the_least_one(self):
        luck = chance(10)
        for _ in range(60):
            plan = some_plan(luck, "abc", 4, 3, 3, (1, 2))
            start = some_run(luck, "abc", 3)
            past = [start, start] + played(plan, start, 6)
            for i in range(2, 8):
                for moment in "abc":
                    earlier = past[i].with_time(moment, past[i][moment] - 1)
                    broken = [
                        rule for rule in plan.rules() if earlier[rule.moment] < min(
                            past[i - back][other] + shift for other, shift, back in rule.terms)
                    ]
                    self.assertTrue(broken or not past[i - 1].is_at_most(earlier))

    def test_beside_timetables(self):
        luck = chance(11)
        for _ in range(60):
            plan = some_plan(luck, "abcd", 5, 2, 4, (1, 2, 3, 4))
            for pace in ((3, 1), (9, 2)):
                run = timetable(plan, pace)
                if run is not None:
                    ahead = zeros(plan.moments) + min(run.times().values()) // pace[1] - 4 * pace[0]
                    for i, row in enumerate(played(plan, ahead, 20), 1):
                        for moment in plan.moments:
                            self.assertLessEqual(row[moment], Fraction(run[moment] + i * pace[0], pace[1]))
