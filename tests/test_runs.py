"""Runs ([31]): times, the earlier and the later one, shifted ones, and what is told of them."""

import itertools

from anyofthese.errors import InvalidMoments, InvalidShift, InvalidTimes, OtherMoments, TooMany, UnknownMoment
from anyofthese.runs import Run
from tests.samples import BIG, EIGHT, LOW, NAMES, NO_INTEGERS, NO_NAMES, NO_TIMES, ODD_VALUES, Case

NINE = EIGHT + ["i"]
TOO_MANY = {"what": "moments", "limit": 8}


class MakingTest(Case):
    def test_keys_in_any_sequence(self):
        for keys in itertools.permutations(["bus", "ann", "shop"]):
            run = Run({key: len(key) for key in keys})
            self.same(run.times(), {"ann": 3, "bus": 3, "shop": 4})
            self.same(run.moments, ("ann", "bus", "shop"))
            self.same(repr(run), "Run({'ann': 3, 'bus': 3, 'shop': 4})")

    def test_by_the_name_of_the_parameter(self):
        self.same(Run(times={"ann": BIG}), Run({"ann": BIG}))

    def test_with_keywords(self):
        self.same(Run.of(bus=-2, ann=BIG).times(), {"ann": BIG, "bus": -2})
        self.same(Run.of(**{name: LOW for name in NAMES}).moments, tuple(sorted(NAMES)))

    def test_no_times(self):
        for value in NO_TIMES:
            with self.subTest(value=value):
                self.fails(InvalidTimes, {"value": value}, Run, value)
                self.fails(InvalidTimes, {"value": value}, Run, times=value)

    def test_no_times_with_keywords(self):
        self.fails(InvalidTimes, {"value": {}}, Run.of)
        for value in NO_INTEGERS:
            with self.subTest(value=value):
                self.fails(InvalidTimes, {"value": {"b": 1, "a": value}}, Run.of, b=1, a=value)
        for key in ("Ann", "abcdefghi", "a_b", "a1"):
            self.fails(InvalidTimes, {"value": {"ann": 1, key: 2}}, Run.of, **{"ann": 1, key: 2})

    def test_one_to_eight_moments(self):
        for many in range(1, 9):
            self.same(len(Run({name: 0 for name in EIGHT[:many]})), many)
        self.fails(TooMany, TOO_MANY, Run, {name: 0 for name in NINE})
        self.fails(TooMany, TOO_MANY, Run.of, **{name: 0 for name in NINE})
        self.fails(TooMany, TOO_MANY, Run, {letter: 0 for letter in "abcdefghijklmnopqrstuvwxyz"})

    def test_wrong_times_come_ahead_of_too_many(self):
        value = {**{name: 0 for name in NINE}, "j": True}
        self.fails(InvalidTimes, {"value": value}, Run, value)

    def test_a_dict_that_is_changed_later_has_no_effect(self):
        times = {"bus": 1, "ann": 2}
        run = Run(times)
        self.assertEqual(list(times), ["bus", "ann"])
        times["ann"] = 9
        times["cat"] = 9
        del times["bus"]
        self.same(run.times(), {"ann": 2, "bus": 1})


class TellingTest(Case):
    def setUp(self):
        self.run_ = Run.of(bus=-2, ann=BIG, cat=0)

    def test_moments_cannot_be_set(self):
        self.same(self.run_.moments, ("ann", "bus", "cat"))
        with self.assertRaises(AttributeError):
            self.run_.moments = ("ann",)

    def test_told_times_are_new(self):
        told = self.run_.times()
        told["ann"] = 1
        del told["bus"]
        self.same(self.run_.times(), {"ann": BIG, "bus": -2, "cat": 0})
        self.assertIsNot(self.run_.times(), self.run_.times())

    def test_time_of_a_moment(self):
        self.same([self.run_[name] for name in ("ann", "bus", "cat")], [BIG, -2, 0])

    def test_time_of_no_moment(self):
        for value in [*NO_NAMES, "dan", "an", slice(0, 1), -2]:
            with self.subTest(value=value):
                self.fails(UnknownMoment, {"value": value}, lambda at: self.run_[at], value)

    def test_in(self):
        for value in ("ann", "bus", "cat"):
            self.assertIs(value in self.run_, True)
        for value in [*NO_NAMES, "dan", "an", BIG, -2, 0, {"ann": BIG}, {"ann"}]:
            self.assertIs(value in self.run_, False)
            self.assertIs(value not in self.run_, True)

    def test_len(self):
        self.same([len(self.run_), len(Run.of(a=0))], [3, 1])

    def test_it_is_not_iterated_over(self):
        self.not_iterated(self.run_)


class BothTest(Case):
    def test_the_earlier_and_the_later_one(self):
        one, other = Run.of(c=BIG, a=1, b=5, d=2), Run.of(a=3, b=0, d=2, c=LOW)
        for left, right in ((one, other), (other, one)):
            self.same((left & right).times(), {"a": 1, "b": 0, "c": LOW, "d": 2})
            self.same((left | right).times(), {"a": 3, "b": 5, "c": BIG, "d": 2})
        self.same([one & one, one | one], [one, one])
        self.same([one, other], [Run.of(c=BIG, a=1, b=5, d=2), Run.of(a=3, b=0, d=2, c=LOW)])

    def test_is_at_most(self):
        run = Run.of(a=1, b=BIG)
        rows = [
            (Run.of(a=1, b=BIG), True), (Run.of(a=2, b=BIG), True), (Run.of(b=BIG + 1, a=1), True),
            (Run.of(a=0, b=BIG + 1), False), (Run.of(a=2, b=BIG - 1), False), (Run.of(a=LOW, b=LOW), False),
        ]
        for other, wanted in rows:
            self.assertIs(run.is_at_most(other), wanted)
            self.assertIs(run.is_at_most(other=other), wanted)
            self.assertIs((run & other).is_at_most(other), True)
            self.assertIs(run.is_at_most(run | other), True)

    def test_other_moments(self):
        run = Run.of(b=1, a=2)
        for other in (Run.of(a=1), Run.of(b=1), Run.of(c=0, b=1, a=2), Run.of(c=1, a=0), Run.of(aa=1, b=1)):
            told, turned = {"one": ("a", "b"), "other": other.moments}, {"one": other.moments, "other": ("a", "b")}
            for use in (lambda x, y: x & y, lambda x, y: x | y, Run.is_at_most):
                self.fails(OtherMoments, told, use, run, other)
                self.fails(OtherMoments, turned, use, other, run)
            self.fails(OtherMoments, told, run.is_at_most, other=other)
        self.same([run & run + 1, run | run + 1], [run, Run.of(b=2, a=3)])

    def test_nothing_else_goes_with_a_run(self):
        for value in (None, 1, "a", {"a": 1}, [], True):
            for use in (lambda: Run.of(a=1) & value, lambda: value & Run.of(a=1), lambda: Run.of(a=1) | value,
                        lambda: value | Run.of(a=1)):
                with self.assertRaises(TypeError):
                    use()


class ShiftedTest(Case):
    def test_on_both_sides_and_less_a_number(self):
        for number in (0, 1, -4, BIG, LOW):
            run = Run.of(bus=-2, ann=BIG)
            self.same((run + number).times(), {"ann": BIG + number, "bus": number - 2})
            self.same((number + run).times(), {"ann": BIG + number, "bus": number - 2})
            self.same((run - number).times(), {"ann": BIG - number, "bus": -2 - number})
            self.same(run.times(), {"ann": BIG, "bus": -2})

    def test_no_numbers(self):
        run = Run.of(ann=3)
        for value in NO_INTEGERS:
            with self.subTest(value=value):
                self.fails(InvalidShift, {"value": value}, lambda number: run + number, value)
                self.fails(InvalidShift, {"value": value}, lambda number: run - number, value)
        for value in (None, True, False, "", "1", [1], (1,), {1: 1}, b"a", object()):
            with self.subTest(left=value):
                self.fails(InvalidShift, {"value": value}, lambda number: number + run, value)
        self.same(run + 1, Run.of(ann=4))


class WithTimeTest(Case):
    def test_another_time_of_a_moment(self):
        run = Run.of(c=1, a=2, b=3)
        self.same(run.with_time("b", LOW).times(), {"a": 2, "b": LOW, "c": 1})
        self.same(run.with_time(time=BIG, moment="a").times(), {"a": BIG, "b": 3, "c": 1})
        self.same(run.with_time("c", 1), run)
        self.same(run, Run.of(c=1, a=2, b=3))

    def test_no_moment_of_it(self):
        for value in [*NO_NAMES, "d", 1]:
            with self.subTest(value=value):
                self.fails(UnknownMoment, {"value": value}, Run.of(a=1).with_time, value, 5)
                self.fails(UnknownMoment, {"value": value}, Run.of(a=1).with_time, time=None, moment=value)

    def test_no_time(self):
        for value in NO_INTEGERS:
            with self.subTest(value=value):
                self.fails(InvalidShift, {"value": value}, Run.of(a=1).with_time, "a", value)
                self.fails(InvalidShift, {"value": value}, Run.of(a=1).with_time, moment="a", time=value)


class OnlyTest(Case):
    def test_moments_in_any_sequence(self):
        run = Run.of(a=1, b=LOW, c=3)
        for many, wanted in ((1, {"c": 3}), (2, {"b": LOW, "c": 3}), (3, {"a": 1, "b": LOW, "c": 3})):
            for moments in itertools.permutations(sorted(wanted)):
                self.same(run.only(moments).times(), wanted)
                self.same(run.only(moments=list(moments)).times(), wanted)
                self.assertEqual(len(moments), many)
        self.same(run, Run.of(a=1, b=LOW, c=3))

    def test_no_list(self):
        for value in [*[value for value in ODD_VALUES if value not in (["a"], ("a",))], 5, "a", "ab", {"a"}, {"a": 0}]:
            with self.subTest(value=value):
                self.fails(InvalidMoments, {"position": None}, Run.of(a=1, b=2).only, value)
                self.fails(InvalidMoments, {"position": None}, Run.of(a=1, b=2).only, moments=value)

    def test_none_of_its_moments(self):
        for value in [*NO_NAMES, "d", 1]:
            with self.subTest(value=value):
                self.fails(InvalidMoments, {"position": 0}, Run.of(a=1, b=2).only, [value, "a"])
                self.fails(InvalidMoments, {"position": 2}, Run.of(a=1, b=2).only, ("b", "a", value, value))

    def test_a_second_time(self):
        self.fails(InvalidMoments, {"position": 1}, Run.of(a=1, b=2).only, ["a", "a"])
        self.fails(InvalidMoments, {"position": 2}, Run.of(a=1, b=2).only, ("b", "a", "b", "d"))
        self.fails(InvalidMoments, {"position": 1}, Run.of(a=1, b=2).only, ["a", "d", "a"])


class GapTest(Case):
    def test_gaps(self):
        run = Run.of(a=BIG, b=LOW, c=5)
        self.same(run.gap("a", "b"), BIG - LOW)
        self.same(run.gap(b="a", a="c"), 5 - BIG)
        self.same(run.gap("b", "b"), 0)

    def test_no_moments_of_it(self):
        run = Run.of(a=1, b=2)
        for value in [*NO_NAMES, "d", 1]:
            with self.subTest(value=value):
                self.fails(UnknownMoment, {"value": value}, run.gap, value, "a")
                self.fails(UnknownMoment, {"value": value}, run.gap, "a", value)
                self.fails(UnknownMoment, {"value": value}, run.gap, b="x", a=value)
        self.same(run.gap("b", "a"), 1)


class LikenessTest(Case):
    def test_equal_runs(self):
        self.assertIs(Run.of(a=1, b=BIG) == Run({"b": BIG, "a": 1}), True)
        self.assertIs(Run.of(a=1, b=BIG) != Run({"b": BIG, "a": 1}), False)

    def test_unlike_runs(self):
        for other in (Run.of(a=1), Run.of(a=1, b=3), Run.of(a=1, b=2, c=0), Run.of(a=1, c=2)):
            self.assertIs(Run.of(a=1, b=2) == other, False)
            self.assertIs(Run.of(a=1, b=2) != other, True)

    def test_values_of_other_kinds(self):
        for value in [*NO_INTEGERS, {"b": 1}, ("b",), "Run({b: 1})", 1]:
            self.assertIs(Run.of(b=1) == value, False)
            self.assertIs(value == Run.of(b=1), False)

    def test_reprs(self):
        rows = [(Run.of(bus=0, ann=5), "Run({'ann': 5, 'bus': 0})"), (Run.of(a=LOW), f"Run({{'a': {LOW}}})")]
        for run, text in rows:
            self.same(repr(run), text)
            self.assertEqual(eval(text), run)


class AgainTest(Case):
    def test_repeated_calls_answer_the_same(self):
        run = Run.of(a=1, b=2)
        for call in (run.times, lambda: run.moments, lambda: run & run - 1, lambda: run | run - 1,
                     lambda: run.gap("a", "b"),
                     lambda: run.with_time("a", 5), lambda: run.only(["b"]), lambda: run + 1, lambda: repr(run)):
            self.same(call(), call())
        self.same(run, Run.of(a=1, b=2))
