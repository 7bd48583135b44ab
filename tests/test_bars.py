"""Promise [84]: bars, bans and licences."""

from fractions import Fraction

from anyofthese.bars import ban, bar, is_ban, is_bar, is_licence, licence
from anyofthese.errors import InvalidPace
from anyofthese.paces import kind, played, timetable
from anyofthese.plans import Plan, RoundRule
from tests.papers import moved_papers, near, odd_papers, times_by_number, told_ban, told_bar, told_licence
from tests.samples import BIG, EIGHT, LOW, NO_PACES, ODD_VALUES, Case
from tests.trials import chance, kind_by_choices, some_plan, some_run

PLAN = Plan(["a", "b"], [RoundRule("a", [("b", 3, 1)]), RoundRule("b", [("a", 4, 0), ("b", 2, 1)])])
PAPER = {"a": (0, 0, 0), "b": (1, 0, 0)}
RING = Plan(["a", "b"], [RoundRule("a", [("b", 1, 0)]), RoundRule("b", [("a", -1, 0), ("b", 9, 1)])])


class BarTest(Case):
    def right(self, plan, pace, wanted):
        """There is a bar for the pace if it is wanted, and it is one."""
        told = bar(plan, pace)
        self.assertEqual(told is not None, wanted)
        self.same(bar(pace=pace, plan=plan), told)
        if wanted:
            self.assertTrue(told_bar(plan, pace, told))
            self.same(is_bar(plan, pace, told), True)
            told.clear()
            self.assertTrue(bar(plan, pace))

    def by_kind(self, plan, told):
        """There are bars at just the paces at which there should be, by the kind."""
        if told[0] == "least":
            for number in (1, 2, 30, 10 ** 40):
                pace = (told[1][0] * number, told[1][1] * number)
                self.right(plan, pace, True)
                self.right(plan, near(pace, 33, -1), True)
                self.right(plan, near(pace, BIG, -1), True)
                self.right(plan, near(pace, BIG, 1), False)
                self.right(plan, near(pace, 40, 1), False)
        for pace in ((0, 1), (-5, 2), (LOW * 9, 1), (BIG * 9, 1), (7, 3)):
            less = told[0] == "least" and Fraction(*pace) <= Fraction(*told[1])
            self.right(plan, pace, told[0] == "none" or less)

    def test_by_the_kind_of_small_plans(self):
        luck = chance(1)
        found = {"any": 0, "none": 0, "least": 0}
        for _ in range(200):
            plan = some_plan(luck, "abcd"[:luck.randint(1, 4)], luck.randint(0, 6), 3, luck.choice((1, 4)))
            told = kind_by_choices(plan)
            self.by_kind(plan, told)
            found[told[0]] += 1
        self.assertGreater(min(found.values()), 10)

    def test_shifts_times_a_number(self):
        luck = chance(2)
        number = 10 ** 50 + 33
        for _ in range(40):
            plan = some_plan(luck, "abcd", luck.randint(1, 6), 3, 4)
            told = kind_by_choices(plan)
            if told[0] == "least":
                pace = Fraction(*told[1]) * number
                told = ("least", (pace.numerator, pace.denominator))
            self.by_kind(times_by_number(plan, number), told)

    def test_long_rings_among_many_rules(self):
        luck = chance(3)
        for back in (0, 1, 4):
            for most in (3, 8):
                names = luck.sample(EIGHT, 8)
                ring = [RoundRule(left, [(by, BIG, back)]) for left, by in zip(names, names[1:] + names[:1])]
                rules = ring + some_plan(luck, EIGHT, 22, most, BIG // 2).rules()
                luck.shuffle(rules)
                plan = Plan(EIGHT, rules)
                self.by_kind(plan, kind(plan))
        for _ in range(10):
            plan = some_plan(luck, EIGHT, 30, 3, BIG)
            self.by_kind(plan, kind(plan))

    def test_paces_that_are_as_near_as_can_be(self):
        rules = [RoundRule(left, [(by, 4, 4)]) for left, by in zip(EIGHT, EIGHT[1:])]
        plan = Plan(EIGHT, rules + [RoundRule("h", [("a", 3, 4), ("a", 2, 3)])])
        self.by_kind(plan, ("least", (30, 31)))
        self.right(plan, (31, 32), False)
        other = Plan(EIGHT, rules + [RoundRule("h", [("a", 3, 4)]), RoundRule("h", [("a", 2, 3)])])
        self.by_kind(other, ("least", (31, 32)))
        self.right(other, (30, 31), True)

    def test_the_document(self):
        self.same(is_bar(PLAN, (2, 1), PAPER), True)
        self.same(is_bar(value=PAPER, pace=(4, 2), plan=PLAN), True)
        self.same(is_bar(PLAN, (3, 1), PAPER), False)
        self.right(PLAN, (2, 1), True)
        self.right(PLAN, (3, 1), False)

    def test_a_back_of_nothing_needs_a_lesser_rank(self):
        # Both rules just reach their numbers, without a back from b to a, and with one from a to b.
        plan = Plan(["a", "b"], [RoundRule("a", [("b", 3, 1)]), RoundRule("b", [("a", -1, 0)])])
        for rank_a in range(-2, 3):
            for rank_b in range(-2, 3):
                paper = {"a": (0, 1, rank_a), "b": (1, 0, rank_b)}
                self.same(is_bar(plan, (2, 1), paper), rank_a < rank_b)
                self.same(is_bar(plan, (1, 1), paper), rank_a < rank_b)
                self.same(is_bar(plan, (1, 1), {"a": (0, 2, rank_a), "b": (1, 0, rank_b)}), True)
        alone = Plan(["a"], [RoundRule("a", [("a", 0, 0)])])
        for rank in (0, 1, -5, BIG):
            self.same(is_bar(alone, (0, 1), {"a": (0, 0, rank)}), False)
        self.same(bar(alone, (0, 1)), None)
        self.same(is_bar(Plan(["a"], [RoundRule("a", [("a", 0, 4)])]), (0, 1), {"a": (0, 0, 0)}), True)
        self.same(is_bar(Plan(["a"], [RoundRule("a", [("a", 0, 4)])]), (1, 9), {"a": (0, 0, 0)}), False)

    def test_every_value_against_the_conditions(self):
        luck = chance(4)
        found = {True: 0, False: 0}
        for _ in range(120):
            plan = some_plan(luck, "abc", 5, 2, 2)
            pace = (luck.randint(-3, 1), luck.randint(1, 2))
            told = bar(plan, pace)
            if told is not None:
                for by in (1, 2, BIG):
                    for paper in moved_papers(told, by):
                        right = all(0 <= line[0] < len(plan) for line in paper.values())
                        wanted = right and told_bar(plan, pace, paper)
                        self.same(is_bar(plan, pace, paper), wanted)
                        found[wanted] += 1
                turned = {key: told[key] for key in reversed(list(told))}
                self.same(is_bar(plan, pace, turned), True)
        self.assertGreater(min(found.values()), 200)

    def test_no_bars(self):
        luck = chance(5)
        for _ in range(20):
            plan = some_plan(luck, "abc", 5, 2, 2)
            told = bar(plan, (-9, 1))
            for paper in odd_papers(PAPER):
                self.same(is_bar(PLAN, (2, 1), paper), False)
            for paper in ODD_VALUES + ["", 0] + (odd_papers(told) if told else []):
                self.same(is_bar(plan, (-9, 1), paper), False)
        wrongs = [
            {"a": (0, 0, 0)}, {"b": (1, 0, 0)}, {"a": (1, 0, 0), "b": (0, 0, 0)}, {"a": (0, 0, 0), "b": (2, 0, 0)},
            {"a": (0, 0, 0), "b": (-1, 0, 0)}, {"a": (0, 0, 0), "c": (1, 0, 0)}, {"a": (0, 1, 0), "b": (1, -1, 0)},
        ]
        for paper in wrongs:
            self.same(is_bar(PLAN, (2, 1), paper), False)
        self.same(is_bar(Plan(["a"]), (0, 1), {}), False)

    def test_invalid_paces(self):
        for wrong in NO_PACES:
            self.fails(InvalidPace, {"value": wrong}, bar, PLAN, wrong)
            self.fails(InvalidPace, {"value": wrong}, is_bar, PLAN, wrong, PAPER)
            self.fails(InvalidPace, {"value": wrong}, is_bar, PLAN, wrong, None)
        self.same(is_bar(PLAN, (2, 1), bar(PLAN, (2, 1))), True)

    def test_what_is_played_stays_between_the_lines(self):
        luck = chance(6)
        many = 0
        for _ in range(120):
            plan = some_plan(luck, "abcd", luck.randint(3, 8), 2, 6, (1, 1, 2, 3, 4))
            told = kind(plan)
            if told[0] != "least":
                continue
            many += 1
            top, bottom = told[1]
            start = some_run(luck, "abcd", 5)
            rows = played(plan, start, 30)
            low = {moment: line[1] for moment, line in bar(plan, told[1]).items()}
            ahead = min(start[a] - Fraction(low[a] + j * top, bottom) for a in low for j in range(-3, 1))
            high = timetable(plan, told[1])
            behind = max(start[a] - Fraction(high[a] + j * top, bottom) for a in high.moments for j in range(-3, 1))
            for i, row in enumerate(rows, 1):
                for a in low:
                    self.assertGreaterEqual(row[a], Fraction(low[a] + i * top, bottom) + ahead)
                if top >= 0:
                    for a in high.moments:
                        self.assertLessEqual(row[a], Fraction(high[a] + i * top, bottom) + behind)
        self.assertGreater(many, 40)


class BanAndLicenceTest(Case):
    def right(self, plan, told):
        """A ban, a licence or a least pace, just as the kind is told, and each is one."""
        papers = (ban(plan), licence(plan=plan))
        self.assertEqual([paper is not None for paper in papers], [told == ("none",), told == ("any",)])
        self.same((ban(plan=plan), licence(plan)), papers)
        if papers[0] is not None:
            self.assertTrue(told_ban(plan, papers[0]))
            self.same(is_ban(plan, papers[0]), True)
            self.same(is_ban(value={key: papers[0][key] for key in reversed(list(papers[0]))}, plan=plan), True)
            papers[0].clear()
            self.assertTrue(ban(plan))
        if papers[1] is not None:
            self.assertTrue(told_licence(plan, papers[1]))
            self.same(is_licence(plan, papers[1]), True)
            self.same(is_licence(value={key: papers[1][key] for key in reversed(list(papers[1]))}, plan=plan), True)
            papers[1].clear()
            self.assertTrue(licence(plan))

    def test_by_the_kind_of_small_plans(self):
        luck = chance(7)
        found = {"any": 0, "none": 0, "least": 0}
        for _ in range(600):
            names = "abcd"[:luck.randint(1, 4)]
            plan = some_plan(luck, names, luck.randint(0, 7), 3, 3, luck.choice(((0, 0, 1), (0, 1, 2, 4))))
            told = kind_by_choices(plan)
            self.right(plan, told)
            great = times_by_number(plan, 10 ** 50)
            self.assertEqual(kind(great)[0], told[0])
            self.right(great, kind(great))
            found[told[0]] += 1
        self.assertGreater(min(found.values()), 60)

    def test_great_plans(self):
        luck = chance(8)
        found = {"any": 0, "none": 0, "least": 0}
        for backs in ((0,), (0, 0, 0, 0, 0, 1), (0, 1, 2, 3, 4)):
            for most, many in ((1, 8), (1, 30), (2, 20), (8, 30)):
                for _ in range(4):
                    plan = some_plan(luck, EIGHT, many, most, BIG, backs)
                    self.right(plan, kind(plan))
                    found[kind(plan)[0]] += 1
        self.assertGreater(min(found.values()), 3)

    def test_chains_of_eight_moments(self):
        for back in (1, 4):
            links = [RoundRule(left, [(by, LOW, back)]) for left, by in zip(EIGHT, EIGHT[1:])]
            self.right(Plan(EIGHT, links), ("any",))
            self.right(Plan(EIGHT, links + [RoundRule("h", [("h", 0, 0)])]), ("any",))
            stuck = Plan(EIGHT, links + [RoundRule("h", [("h", 1, 0)])])
            self.right(stuck, ("none",))
            paper = {moment: (position, 0, 7 - position) for position, moment in enumerate(EIGHT)}
            self.same(is_ban(stuck, paper), True)
            self.same(is_ban(stuck, {**paper, "d": (3, 0, 3)}), False)
            self.same(is_ban(stuck, {**paper, "h": (7, 0, 1)}), False)
            self.same(is_ban(stuck, {moment: paper[moment] for moment in "cdefgh"}), True)
            self.same(is_ban(stuck, {moment: paper[moment] for moment in "abcdefg"}), False)
            levels = {moment: (0, 7 - position) for position, moment in enumerate(EIGHT)}
            self.same(is_licence(Plan(EIGHT, links), levels), True)
            self.same(is_licence(Plan(EIGHT, links), {**levels, "d": (0, 3)}), False)
            self.same(is_licence(stuck, levels), False)

    def test_plans_without_rules(self):
        for moments in (["a"], EIGHT):
            plan = Plan(moments)
            self.right(plan, ("any",))
            self.same(is_licence(plan, {moment: (BIG, LOW) for moment in moments}), True)
            self.same(is_ban(plan, {}), False)
            self.same(is_licence(plan, {}), False)

    def test_every_value_against_the_conditions(self):
        luck = chance(9)
        found = {("ban", True): 0, ("ban", False): 0, ("licence", True): 0, ("licence", False): 0}
        for _ in range(300):
            plan = some_plan(luck, "abc", luck.randint(1, 5), 2, 1, (0, 0, 0, 1))
            for name, paper, right, told in (("ban", ban(plan), is_ban, told_ban),
                                             ("licence", licence(plan), is_licence, told_licence)):
                for by in (1, 2, BIG) if paper else ():
                    for moved in moved_papers(paper, by):
                        wanted = name == "licence" or all(0 <= line[0] < len(plan) for line in moved.values())
                        wanted = wanted and told(plan, moved)
                        self.same(right(plan, moved), wanted)
                        found[name, wanted] += 1
        self.assertGreater(min(found.values()), 100)

    def test_no_bans_and_no_licences(self):
        stuck = Plan(["a", "b"], [RoundRule("a", [("b", 1, 0)]), RoundRule("b", [("a", 0, 0)])])
        self.same(is_ban(stuck, {"a": (0, 1, 0), "b": (1, 0, 0)}), True)
        for paper in odd_papers({"a": (0, 1, 0), "b": (1, 0, 0)}) + ODD_VALUES + ["", 0]:
            self.same(is_ban(stuck, paper), False)
            self.same(is_licence(stuck, paper), False)
        wrongs = [
            {"a": (0, 1, 0)}, {"a": (1, 1, 0), "b": (0, 0, 0)}, {"a": (0, 1, 0), "b": (2, 0, 0)},
            {"a": (0, 2, 0), "b": (1, 0, 0)}, {"a": (0, 0, 0), "b": (1, 0, 0)}, {"a": (0, 1, 1), "b": (1, 0, 0)},
            {"a": (0, 1, 0), "b": (-1, 0, 0)},
        ]
        for paper in wrongs:
            self.same(is_ban(stuck, paper), False)
        free = Plan(["a", "b"], [RoundRule("a", [("b", 1, 0)]), RoundRule("b", [("a", -1, 0), ("b", 5, 0)])])
        self.same(is_licence(free, {"a": (1, 0), "b": (0, 0)}), True)
        wrongs = [{"a": (1, 0), "b": (0, 1)}, {"a": (1, 0), "b": (0, 0), "c": (0, 0)}, {"a": (1, 0)}, {"b": (0, 0)}]
        for paper in odd_papers({"a": (1, 0), "b": (0, 0)}) + ODD_VALUES + ["", 0] + wrongs:
            self.same(is_licence(free, paper), False)
            self.same(is_ban(free, paper), False)

    def test_a_back_needs_another_level(self):
        plan = Plan(["a"], [RoundRule("a", [("a", 1, 1)])])
        for level in range(-2, 3):
            self.same(is_ban(plan, {"a": (0, 0, level)}), False)
            self.same(is_licence(plan, {"a": (0, level)}), False)
        both = Plan(["a", "b"], [RoundRule("a", [("b", BIG, 1)])])
        for level in range(-2, 3):
            self.same(is_licence(both, {"a": (0, level), "b": (0, 0)}), level > 0)

    def test_just_one_of_three(self):
        self.right(PLAN, ("least", (2, 1)))
        self.right(RING, ("any",))
        self.right(Plan(["a"], [RoundRule("a", [("a", 1, 0)])]), ("none",))
        self.right(Plan(["a", "b"], [RoundRule("a", [("a", 1, 0)]), RoundRule("b", [("a", LOW, 4)])]), ("none",))
        self.right(Plan(["a"], [RoundRule("a", [("a", 1, 0), ("a", -5, 1)])]), ("least", (-5, 1)))
