"""Promises [72] and [73]: floors and ceilings, windows, and anchored books."""

from anyofthese.books import Book
from anyofthese.errors import (
    InvalidCeilings, InvalidName, InvalidShift, NameTaken, NoRun, OtherMoments, TooMany, UnknownMoment,
)
from anyofthese.least import least_run
from anyofthese.rules import Rule
from anyofthese.runs import Run
from anyofthese.spans import span
from anyofthese.terms import Term
from anyofthese.windows import anchored, fits, run_at, window
from tests.samples import BIG, EIGHT, LOW, NO_CEILINGS, NO_INTEGERS, NO_NAMES, ODD_VALUES, SHOP, Case
from tests.trials import are_kept, chance, great_book, runs_in_box, some_book, some_rule, some_run, zeros

ZEROS = Run.of(shop=0, ann=0, bob=0, bus=0)
STUCK = Book(["a", "b"], [Rule("a", Term("b") + 3), Rule("b", Term("a") - 2)])
OTHERS = [Run.of(ann=0, bob=0, bus=0), Run.of(ann=0, bob=0, bus=0, shops=0), ZEROS & ZEROS]
CALLS = [
    lambda book, floors, ceilings: fits(book, floors, ceilings),
    lambda book, floors, ceilings: window(book, floors, ceilings, "wrong"),
    lambda book, floors, ceilings: run_at(book, floors, ceilings, "wrong", None),
    lambda book, floors, ceilings: anchored(book, "shop", floors, ceilings),
]


def is_within(times, floors, ceilings):
    return all(times[moment] >= floors[moment] for moment in times) and all(
        times[moment] <= ceilings[moment] for moment in ceilings)


def some_ceilings(luck, moments, floors, size):
    """Ceilings of some of the moments, in any sequence, mostly behind the floors."""
    chosen = luck.sample(sorted(moments), luck.randint(0, len(moments)))
    return {moment: floors[moment] + luck.randint(-1, size) for moment in chosen}


class WindowTest(Case):
    def right(self, book, floors, ceilings, moment, ends):
        """The window has these ends, and there are runs just between both."""
        self.same(window(book, floors, ceilings, moment), ends)
        low, high = ends
        inside = [low, low + 1, low + 5] if high is None else [low, (low + high) // 2, high]
        for time in inside:
            if high is None or time <= high:
                run = run_at(book, floors, ceilings, moment, time)
                self.assertIs(run.__class__, Run)
                self.assertTrue(are_kept(book, run.times()))
                self.assertTrue(is_within(run.times(), floors, ceilings))
                self.same(run[moment], time)
                self.same(run.moments, book.moments)
        outside = [low - 1, low - BIG] + ([] if high is None else [high + 1, high + BIG])
        for time in outside:
            self.same(run_at(book, floors, ceilings, moment, time), None)

    def test_against_all_times_of_a_box(self):
        luck = chance(1)
        found = {"no": 0, "open": 0, "closed": 0}
        for _ in range(60):
            names = "abc"[:luck.randint(1, 3)]
            book = some_book(luck, names, luck.randint(0, 5), 2, 2)
            runs = runs_in_box(book, 16)
            for _ in range(3):
                floors = Run({moment: luck.randint(0, 3) for moment in names})
                ceilings = some_ceilings(luck, names, floors, 3)
                inside = [times for times in runs if is_within(times, floors, ceilings)]
                self.same(fits(book, floors, ceilings), len(inside) > 0)
                for moment in names:
                    if inside:
                        # A greatest time is at most 2 * 2 behind a ceiling; a run with 12 goes no further than 16.
                        low, high = min(row[moment] for row in inside), max(row[moment] for row in inside)
                        self.right(book, floors, ceilings, moment, (low, None if high > 11 else high))
                        found["open" if high > 11 else "closed"] += 1
                    else:
                        self.fails(NoRun, {}, window, book, floors, ceilings, moment)
                        self.same(run_at(book, floors, ceilings, moment, floors[moment]), None)
                        found["no"] += 1
        self.assertGreater(min(found.values()), 60, found)

    def test_the_same_moved_far(self):
        luck = chance(2)
        far = 10 ** 50 + 7
        for _ in range(60):
            names = "abcd"
            book = some_book(luck, names, luck.randint(0, 6), 2, 3)
            floors = some_run(luck, names, 3)
            ceilings = some_ceilings(luck, names, floors, 6)
            if not fits(book, floors, ceilings):
                continue
            for moment in names:
                low, high = window(book, floors, ceilings, moment)
                self.right(book, floors, ceilings, moment, (low, high))
                for by in (far, -far):
                    moved = {other: ceilings[other] + by for other in ceilings}
                    ends = (low + by, None if high is None else high + by)
                    self.right(book, floors + by, moved, moment, ends)

    def test_eight_moments_and_a_hundred_rules(self):
        luck = chance(3)
        found = {True: 0, False: 0}
        for many in [100] * 15 + [10] * 10:
            book = great_book(luck, many)
            floors = some_run(luck, EIGHT, 10 ** 59)
            least = least_run(book, floors)
            chosen = luck.sample(EIGHT, 3)
            ceilings = {moment: least[moment] + luck.randint(0, 10 ** 58) for moment in chosen}
            self.same(fits(book, floors, ceilings), True)
            for moment in EIGHT:
                low, high = window(book, floors, ceilings, moment)
                self.same(low, least[moment])
                self.right(book, floors, ceilings, moment, (low, high))
                found[high is None] += 1
            ceilings[chosen[0]] = least[chosen[0]] - 1
            self.same(fits(book, floors, ceilings), False)
            self.fails(NoRun, {}, window, book, floors, ceilings, "a")
        self.assertGreater(min(found.values()), 10)

    def test_a_floor_at_a_time_of_the_window(self):
        luck = chance(4)
        for _ in range(60):
            book = some_book(luck, "abcd", 5, 2, 3)
            floors = some_run(luck, "abcd", 3)
            ceilings = some_ceilings(luck, "abcd", floors, 9)
            if fits(book, floors, ceilings):
                low, high = window(book, floors, ceilings, "a")
                for time in (low, low + 3 if high is None else high):
                    raised = floors.with_time("a", time)
                    self.same(fits(book, raised, ceilings), True)
                    self.same(window(book, raised, ceilings, "a"), (time, high))
                if high is not None:
                    self.same(fits(book, floors.with_time("a", high + 1), ceilings), False)

    def test_the_document(self):
        self.right(SHOP, ZEROS, {"shop": 12}, "bus", (0, 7))
        self.same(window(moment="bus", ceilings={"shop": 12}, floors=ZEROS, book=SHOP), (0, 7))
        self.same(fits(ceilings={"shop": 4}, floors=ZEROS, book=SHOP), False)
        self.same(run_at(time=7, moment="bus", ceilings={"shop": 12}, floors=ZEROS, book=SHOP)["bus"], 7)
        self.right(SHOP, ZEROS, {"shop": 5}, "bus", (0, 0))
        self.right(SHOP, ZEROS, {"shop": 12}, "bob", (9, None))
        self.right(SHOP, ZEROS, {"shop": 12, "bus": 3}, "shop", (5, 12))

    def test_no_ceilings(self):
        luck = chance(5)
        for _ in range(20):
            book = great_book(luck, 12, 3, BIG)
            floors = some_run(luck, EIGHT, BIG)
            least = least_run(book, floors)
            self.same(fits(book, floors, {}), True)
            for moment in EIGHT:
                self.right(book, floors, {}, moment, (least[moment], None))

    def test_ceilings_in_any_sequence(self):
        luck = chance(6)
        for _ in range(20):
            book = some_book(luck, "abcd", 4, 2, 3)
            floors = some_run(luck, "abcd", 2)
            ceilings = {moment: floors[moment] + luck.randint(4, 9) for moment in "abcd"}
            turned = {moment: ceilings[moment] for moment in "dbca"}
            self.same(fits(book, floors, ceilings), fits(book, floors, turned))
            if fits(book, floors, ceilings):
                self.same(window(book, floors, ceilings, "c"), window(book, floors, turned, "c"))
                time = window(book, floors, ceilings, "c")[0]
                self.same(run_at(book, floors, ceilings, "c", time), run_at(book, floors, turned, "c", time))
            self.same(anchored(book, "zero", floors, ceilings), anchored(book, "zero", floors, turned))
            self.assertEqual(list(turned), list("dbca"))

    def test_a_ceiling_below_a_floor(self):
        for ceilings in ({"ann": -1}, {"shop": 99, "bus": LOW}, {"bob": -1, "shop": 99}):
            self.same(fits(SHOP, ZEROS, ceilings), False)
            for moment in SHOP.moments:
                self.fails(NoRun, {}, window, SHOP, ZEROS, ceilings, moment)
                self.same(run_at(SHOP, ZEROS, ceilings, moment, 0), None)
                self.same(run_at(SHOP, ZEROS, ceilings, moment, 50), None)

    def test_a_book_without_a_run(self):
        floors = Run.of(a=0, b=0)
        for ceilings in ({}, {"a": BIG}, {"a": BIG, "b": BIG}):
            self.same(fits(STUCK, floors, ceilings), False)
            self.fails(NoRun, {}, window, STUCK, floors, ceilings, "a")
            self.same(run_at(STUCK, floors, ceilings, "b", 5), None)
        self.right(STUCK.without(0), floors, {"a": 7}, "a", (0, 7))
        self.right(STUCK.without(1), floors, {"a": 7}, "b", (0, 4))

    def test_what_is_passed_stays(self):
        ceilings = {"shop": 12}
        made = anchored(SHOP, "zero", ZEROS, ceilings)
        window(SHOP, ZEROS, ceilings, "bus")
        run_at(SHOP, ZEROS, ceilings, "bus", 3)
        self.same(ceilings, {"shop": 12})
        ceilings["shop"] = 0
        self.same(made[7], Rule("zero", Term("shop") - 12))


class ErrorTest(Case):
    def test_invalid_ceilings(self):
        book = Book(["a", "shop", "wrong"])
        floors = zeros(book.moments)
        for wrong in NO_CEILINGS:
            for call in CALLS[:1]:
                self.fails(InvalidCeilings, {"value": wrong}, call, book, floors, wrong)
            self.fails(InvalidCeilings, {"value": wrong}, window, book, floors, wrong, "zoe")
            self.fails(InvalidCeilings, {"value": wrong}, run_at, book, floors, wrong, "zoe", None)
            self.fails(InvalidCeilings, {"value": wrong}, anchored, book, "shop", floors, wrong)
        for right in ({}, {"a": 1}, {"wrong": LOW, "a": BIG}):
            self.same(fits(book, floors + LOW - 1, right), True)

    def test_other_moments_ahead_of_all_others(self):
        for other in OTHERS[:2] + [Run.of(a=1)]:
            wrong = {"one": SHOP.moments, "other": other.moments}
            for call in CALLS:
                self.fails(OtherMoments, wrong, call, SHOP, other, None)
        self.same(fits(SHOP, OTHERS[2], {}), True)

    def test_unknown_moments(self):
        for wrong in NO_NAMES + ["zoe", "an"]:
            self.fails(UnknownMoment, {"value": wrong}, window, SHOP, ZEROS, {"shop": -1}, wrong)
            self.fails(UnknownMoment, {"value": wrong}, run_at, SHOP, ZEROS, {}, wrong, None)
        self.same(window(SHOP, ZEROS, {}, "ann"), (5, None))

    def test_invalid_times(self):
        for wrong in NO_INTEGERS:
            self.fails(InvalidShift, {"value": wrong}, run_at, SHOP, ZEROS, {"shop": -1}, "bus", wrong)
        self.same(run_at(SHOP, ZEROS, {"shop": -1}, "bus", 1), None)
        self.same(run_at(SHOP, ZEROS, {"shop": 6}, "bus", 1)["bus"], 1)


class AnchoredTest(Case):
    def test_the_rules_in_sequence(self):
        floors = Run.of(shop=3, ann=-1, bob=0, bus=BIG)
        book = anchored(SHOP, "cat", floors, {"shop": 12, "ann": -LOW, "bus": 0})
        self.assertIs(book.__class__, Book)
        self.same(book.moments, ("ann", "bob", "bus", "cat", "shop"))
        self.same(book.rules(), SHOP.rules() + [
            Rule("ann", Term("cat") - 1), Rule("bob", Term("cat")), Rule("bus", Term("cat") + BIG),
            Rule("shop", Term("cat") + 3), Rule("cat", Term("ann") + LOW), Rule("cat", Term("bus")),
            Rule("cat", Term("shop") - 12),
        ])
        self.same(anchored(ceilings={}, floors=Run.of(a=2), zero="z", book=Book(["a"])),
                  Book(["a", "z"], [Rule("a", Term("z") + 2)]))

    def test_its_runs_are_those_within_both(self):
        luck = chance(7)
        found = {True: 0, False: 0}
        for _ in range(60):
            names = "abc"[:luck.randint(1, 3)]
            book = some_book(luck, names, luck.randint(0, 3), 2, 2)
            floors = some_run(luck, names, 2)
            ceilings = some_ceilings(luck, names, floors, 4)
            made = anchored(book, "zero", floors, ceilings)
            for _ in range(60):
                times = some_run(luck, [*names, "zero"], 4).times()
                moved = {moment: times[moment] - times["zero"] for moment in names}
                wanted = are_kept(book, moved) and is_within(moved, floors, ceilings)
                self.assertEqual(are_kept(made, times), wanted)
                found[wanted] += 1
        self.assertGreater(min(found.values()), 200)

    def test_spans_to_zero_are_the_windows(self):
        luck = chance(8)
        for size in (3, BIG):
            for _ in range(40):
                book = some_book(luck, "abcd", luck.randint(0, 6), 3, size)
                floors = some_run(luck, "abcd", size)
                ceilings = some_ceilings(luck, "abcd", floors, 2 * size)
                made = anchored(book, "zero", floors, ceilings)
                for moment in "abcd":
                    if fits(book, floors, ceilings):
                        self.same(window(book, floors, ceilings, moment), span(made, moment, "zero"))
                    else:
                        self.fails(NoRun, {}, window, book, floors, ceilings, moment)
                        self.fails(NoRun, {}, span, made, moment, "zero")

    def test_invalid_names(self):
        for wrong in NO_NAMES:
            self.fails(InvalidName, {"value": wrong}, anchored, SHOP, wrong, Run.of(a=1), None)
        self.same(len(anchored(SHOP, "zero", ZEROS, {})), 7)

    def test_names_that_are_taken(self):
        full = Book(EIGHT, [Rule("a", Term("b"))] * 100)
        for book in (SHOP, full):
            for moment in book.moments:
                self.fails(NameTaken, {"value": moment}, anchored, book, moment, zeros(book.moments), {moment: -1})
        self.same(len(anchored(SHOP, "bu", ZEROS, {})), 7)

    def test_limits(self):
        luck = chance(9)
        seven = EIGHT[:7]
        for many, ceilings, let in ((93, {}, True), (94, {}, False), (92, {"b": 0}, True), (93, {"b": 0}, False),
                                    (86, dict.fromkeys(seven, 0), True), (87, dict.fromkeys(seven, 0), False)):
            book = Book(seven, [some_rule(luck, seven, 3, 3) for _ in range(many)])
            if let:
                made = anchored(book, "zero", zeros(seven), ceilings)
                self.same((len(made), len(made.moments)), (100, 8))
            else:
                self.fails(TooMany, {"what": "rules", "limit": 100}, anchored, book, "zero", zeros(seven), ceilings)
        for rules in ([], [Rule("a", Term("b"))] * 100):
            book = Book(EIGHT, rules)
            self.fails(TooMany, {"what": "moments", "limit": 8}, anchored, book, "zero", zeros(EIGHT), {})

    def test_eight_moments_and_a_hundred_rules_have_windows(self):
        book = Book(EIGHT, [Rule("a", Term("b"))] * 100)
        self.same(window(book, zeros(EIGHT), dict.fromkeys(EIGHT, 5), "b"), (0, 5))

    def test_the_sequence_of_the_errors(self):
        full = Book(EIGHT, [Rule("a", Term("b"))] * 100)
        floors = zeros(EIGHT)
        other = {"one": tuple(EIGHT), "other": ("a",)}
        self.fails(InvalidName, {"value": "A"}, anchored, full, "A", Run.of(a=0), None)
        self.fails(OtherMoments, other, anchored, full, "a", Run.of(a=0), None)
        self.fails(InvalidCeilings, {"value": None}, anchored, full, "a", floors, None)
        self.fails(NameTaken, {"value": "a"}, anchored, full, "a", floors, {})
        self.fails(TooMany, {"what": "moments", "limit": 8}, anchored, full, "z", floors, {})
        seven = Book(EIGHT[:7], full.rules())
        self.fails(TooMany, {"what": "rules", "limit": 100}, anchored, seven, "z", zeros(EIGHT[:7]), {})
        for wrong in ODD_VALUES[:5]:
            self.fails(UnknownMoment, {"value": wrong}, window, STUCK, Run.of(a=0, b=0), {}, wrong)
