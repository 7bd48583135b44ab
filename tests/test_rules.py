"""Rules ([21] to [23], [32]): parts, always and never, kept by times, slack, the contrary, raised ones, texts."""

import itertools

from anyofthese.earliest import Earliest
from anyofthese.errors import InvalidName, InvalidShift, InvalidTimes
from anyofthese.rules import Rule
from anyofthese.terms import Term
from tests.samples import BIG, LOW, NAMES, NO_INTEGERS, NO_NAMES, NO_TIMES, Case


def all_rules(left, moments, shifts):
    """All Rules with this left and some of the moments, each with one of the shifts, as alternatives."""
    rules = []
    for chosen in itertools.product([None, *shifts], repeat=len(moments)):
        table = {moment: shift for moment, shift in zip(moments, chosen) if shift is not None}
        if table:
            rules.append(Rule(left, Earliest(table)))
    return rules


class MakingTest(Case):
    def test_left_and_earliest(self):
        earliest = Earliest.of(bob=-2, ann=BIG)
        for rule in (Rule("shop", earliest), Rule(earliest=earliest, moment="shop")):
            self.same(rule.moment, "shop")
            self.same(rule.earliest, Earliest.of(ann=BIG, bob=-2))
        self.same(earliest, Earliest.of(bob=-2, ann=BIG))

    def test_a_term_stands_for_its_earliest(self):
        for rule in (Rule("shop", Term("ann", LOW)), Rule(moment="shop", earliest=Term("ann", LOW))):
            self.same(rule.earliest, Earliest.of(ann=LOW))
            self.same(rule, Rule("shop", Earliest.of(ann=LOW)))

    def test_moments_are_told_once_each(self):
        self.same(Rule("shop", Term("cat") | Term("ann")).moments, ("ann", "cat", "shop"))
        self.same(Rule("bob", Term("cat") | Term("ann")).moments, ("ann", "bob", "cat"))
        self.same(Rule("bob", Term("cat") | Term("bob")).moments, ("bob", "cat"))
        self.same(Rule("bob", Term("bob", 4)).moments, ("bob",))
        self.same(len(Rule("z", Earliest({letter: 0 for letter in "abcdefgh"})).moments), 9)

    def test_names(self):
        for name in NAMES:
            self.same(Rule(name, Term("a")).moment, name)

    def test_no_names(self):
        for value in NO_NAMES:
            with self.subTest(value=value):
                self.fails(InvalidName, {"value": value}, Rule, value, Earliest.of(a=0))
                self.fails(InvalidName, {"value": value}, Rule, moment=value, earliest=Term("a"))

    def test_a_rule_does_not_change(self):
        rule = Rule("shop", Term("ann"))
        for name in ("moment", "earliest", "moments", "is_always", "is_never"):
            with self.assertRaises(AttributeError):
                setattr(rule, name, "bob")


class AlwaysTest(Case):
    def test_rows(self):
        rows = [
            ({"a": 0}, True, False), ({"a": -1}, True, False), ({"a": 1}, False, True), ({"a": BIG}, False, True),
            ({"a": LOW}, True, False), ({"b": 0}, False, False), ({"b": LOW}, False, False), ({"b": 1}, False, False),
            ({"a": 0, "b": 5}, True, False), ({"a": 1, "b": 5}, False, False), ({"a": -1, "b": LOW}, True, False),
            ({"b": 0, "c": 0}, False, False),
        ]
        for shifts, always, never in rows:
            rule = Rule("a", Earliest(shifts))
            with self.subTest(str(rule)):
                self.assertIs(rule.is_always, always)
                self.assertIs(rule.is_never, never)

    def test_all_times_keep_it_or_none_do(self):
        for rule in all_rules("a", ["a", "b", "c"], [-1, 0, 1]):
            kept = [rule.kept_by(dict(zip("abc", row))) for row in itertools.product((-3, 0, 3), repeat=3)]
            self.assertIs(rule.is_always, all(kept))
            self.assertIs(rule.is_never, not any(kept))


class KeptTest(Case):
    def test_kept_and_slack(self):
        rule = Rule("shop", Earliest.of(ann=3, bob=-2))
        for shop, ann, bob in itertools.product((-5, 0, 4, 5), repeat=3):
            times = {"shop": shop, "bob": bob, "ann": ann}
            slack = shop - min(ann + 3, bob - 2)
            for told in (times, {**times, "cat": LOW, "aa": BIG}):
                self.assertIs(rule.kept_by(told), slack >= 0)
                self.assertIs(rule.kept_by(times=told), slack >= 0)
                self.same(rule.slack(told), slack)
                self.same(rule.slack(times=told), slack)
            self.assertEqual(times, {"shop": shop, "bob": bob, "ann": ann})

    def test_the_left_among_the_alternatives(self):
        rule = Rule("ann", Earliest.of(ann=3, bob=0))
        self.same([rule.slack({"ann": 5, "bob": 6}), rule.kept_by({"ann": 5, "bob": 6})], [-1, False])
        self.same([rule.slack({"ann": 5, "bob": 5}), rule.kept_by({"ann": 5, "bob": 5})], [0, True])
        self.same(Rule("ann", Term("ann", -4)).slack({"ann": BIG}), 4)

    def test_great_numbers(self):
        rule = Rule("shop", Earliest.of(ann=LOW, bob=BIG))
        self.same(rule.slack({"shop": 0, "ann": BIG, "bob": LOW}), -BIG - LOW)
        self.same(rule.slack({"shop": BIG, "ann": BIG, "bob": BIG}), -LOW)
        self.assertIs(rule.kept_by({"shop": BIG + LOW, "ann": BIG, "bob": LOW}), True)
        self.assertIs(rule.kept_by({"shop": BIG + LOW - 1, "ann": BIG, "bob": LOW}), False)

    def test_no_times(self):
        for rule in (Rule("a", Term("a")), Rule("a", Term("a", 2) - 1)):
            for value in [*NO_TIMES, {"b": 1}]:
                with self.subTest(value=value):
                    for call in (rule.kept_by, rule.slack):
                        self.fails(InvalidTimes, {"value": value}, call, value)
                        self.fails(InvalidTimes, {"value": value}, call, times=value)

    def test_times_without_some_moment(self):
        rule = Rule("a", Term("b") | Term("c"))
        for value in ({"a": 1, "b": 2}, {"a": 1, "c": 2}, {"b": 1, "c": 2}, {"d": 0, "a": 1, "b": 2}):
            for call in (rule.kept_by, rule.slack):
                self.fails(InvalidTimes, {"value": value}, call, value)
        self.same([rule.kept_by({"a": 1, "b": 2, "c": 1}), rule.slack({"a": 1, "b": 2, "c": 1})], [True, 0])


class ContraryTest(Case):
    def test_a_rule_for_each_alternative(self):
        rule = Rule("shop", Earliest.of(cat=0, bob=-2, ann=3))
        wanted = [Rule("ann", Term("shop", -2)), Rule("bob", Term("shop", 3)), Rule("cat", Term("shop", 1))]
        self.same(rule.contrary(), wanted)
        self.same(rule, Rule("shop", Earliest.of(cat=0, bob=-2, ann=3)))

    def test_the_left_among_the_alternatives(self):
        wanted = [Rule("a", Term("b", 1)), Rule("b", Term("b", 1 - BIG))]
        self.same(Rule("b", Earliest.of(b=BIG, a=0)).contrary(), wanted)

    def test_it_is_kept_exactly_if_the_rule_is_not(self):
        for rule in [*all_rules("a", ["b", "c"], [-1, 0, 2]), *all_rules("a", ["a", "b", "c"], [-1, 1])]:
            contrary = rule.contrary()
            for row in itertools.product(range(-3, 3), repeat=3):
                times = dict(zip("abc", row))
                self.assertIs(all(other.kept_by(times) for other in contrary), not rule.kept_by(times))

    def test_the_told_list_is_new(self):
        rule = Rule("shop", Term("ann") | Term("bob"))
        rule.contrary().clear()
        self.same(rule.contrary(), [Rule("ann", Term("shop", 1)), Rule("bob", Term("shop", 1))])


class RaisedTest(Case):
    def test_raised_on_both_sides_and_lowered(self):
        for number in (0, 1, -4, BIG, LOW):
            rule = Rule("shop", Earliest.of(ann=3, shop=LOW))
            self.same(rule + number, Rule("shop", Earliest.of(ann=3 + number, shop=LOW + number)))
            self.same(number + rule, Rule("shop", Earliest.of(ann=3 + number, shop=LOW + number)))
            self.same(rule - number, Rule("shop", Earliest.of(ann=3 - number, shop=LOW - number)))
            self.same(rule, Rule("shop", Earliest.of(ann=3, shop=LOW)))

    def test_no_numbers(self):
        rule = Rule("shop", Term("ann"))
        for value in NO_INTEGERS:
            with self.subTest(value=value):
                self.fails(InvalidShift, {"value": value}, lambda number: rule + number, value)
                self.fails(InvalidShift, {"value": value}, lambda number: rule - number, value)
        for value in (None, True, False, "", "1", [1], (1,), {1: 1}, b"a", object()):
            with self.subTest(left=value):
                self.fails(InvalidShift, {"value": value}, lambda number: number + rule, value)
        self.same(rule + 1, Rule("shop", Term("ann", 1)))


class LikenessTest(Case):
    def test_equal_rules(self):
        one, other = Rule("shop", Term("ann") | Term("bob", 2)), Rule("shop", Earliest.of(bob=2, ann=0))
        self.assertIs(one == other, True)
        self.assertIs(one != other, False)

    def test_unlike_rules(self):
        rule = Rule("shop", Term("ann"))
        for other in (Rule("sho", Term("ann")), Rule("shop", Term("ann", 1)), Rule("shop", Term("bob")),
                      Rule("shop", Term("ann") | Term("bob")), Rule("ann", Term("shop"))):
            self.assertIs(rule == other, False)
            self.assertIs(rule != other, True)

    def test_values_of_other_kinds(self):
        for value in [*NO_INTEGERS, 1, "rule shop ann", ("shop", Earliest.of(ann=0)), Earliest.of(ann=0), Term("shop")]:
            self.assertIs(Rule("shop", Term("ann")) == value, value == Rule("shop", Term("ann")))
            self.assertIs(Rule("shop", Term("ann")) == value, False)


class TextTest(Case):
    def test_texts(self):
        rows = [
            (Rule("shop", Earliest.of(bob=-2, ann=3)), "rule shop ann+3 bob-2"), (Rule("a", Term("a")), "rule a a"),
            (Rule("a", Earliest.of(b=LOW, c=BIG, d=0)), f"rule a b{LOW} c+{BIG} d"),
        ]
        for rule, text in rows:
            self.same(str(rule), text)

    def test_reprs(self):
        rows = [
            (Rule("shop", Term("bob") | Term("ann")), "Rule('shop', Earliest({'ann': 0, 'bob': 0}))"),
            (Rule("ann", Term("bus", -5)), "Rule('ann', Earliest({'bus': -5}))"),
        ]
        for rule, text in rows:
            self.same(repr(rule), text)
            self.assertEqual(eval(text), rule)


class AgainTest(Case):
    def test_repeated_calls_answer_the_same(self):
        rule = Rule("shop", Earliest.of(ann=3, bob=-2))
        times = {"shop": 0, "ann": 0, "bob": 9}
        for call in (rule.contrary, lambda: rule.moments, lambda: rule.slack(times), lambda: rule + 2,
                     lambda: str(rule), lambda: rule.kept_by(times)):
            self.same(call(), call())
        self.assertEqual(times, {"shop": 0, "ann": 0, "bob": 9})
