"""Terms ([11], [12]): what they are made of, their values, sums, texts, and Earliests made of them."""

import itertools

from anyofthese.earliest import Earliest
from anyofthese.errors import InvalidName, InvalidShift, InvalidTimes, TooMany
from anyofthese.terms import Term
from tests.samples import BIG, EIGHT, LOW, NAMES, NO_INTEGERS, NO_NAMES, NO_TIMES, Case


class MakingTest(Case):
    def test_moment_and_shift(self):
        for shift in (0, 3, -2, BIG, LOW):
            for term in (Term("ann", shift), Term(shift=shift, moment="ann"), Term("ann", shift=shift)):
                self.same(term.moment, "ann")
                self.same(term.shift, shift)

    def test_without_a_shift_it_is_0(self):
        self.same(Term("ann").shift, 0)
        self.same(Term(moment="ann").shift, 0)

    def test_names(self):
        for name in NAMES:
            with self.subTest(name):
                self.same(Term(name).moment, name)

    def test_each_letter_can_stand_in_a_name(self):
        for letter in "abcdefghijklmnopqrstuvwxyz":
            self.same(Term(letter).moment, letter)
            self.same(Term("a" + letter + "z").moment, "a" + letter + "z")

    def test_no_names(self):
        for value in NO_NAMES:
            with self.subTest(value=value):
                self.fails(InvalidName, {"value": value}, Term, value)
                self.fails(InvalidName, {"value": value}, Term, value, 3)
                self.fails(InvalidName, {"value": value}, Term, moment=value)

    def test_each_other_character_is_in_no_name(self):
        for code in range(32, 127):
            if not "a" <= chr(code) <= "z":
                for value in (chr(code), "a" + chr(code), chr(code) + "a", "a" + chr(code) + "z"):
                    self.fails(InvalidName, {"value": value}, Term, value)

    def test_no_shifts(self):
        for value in NO_INTEGERS:
            with self.subTest(value=value):
                self.fails(InvalidShift, {"value": value}, Term, "ann", value)
                self.fails(InvalidShift, {"value": value}, Term, moment="ann", shift=value)

    def test_the_name_is_checked_first(self):
        self.fails(InvalidName, {"value": "Ann"}, Term, "Ann", True)
        self.fails(InvalidName, {"value": None}, Term, shift=None, moment=None)

    def test_a_term_does_not_change(self):
        term = Term("ann", 3)
        for name in ("moment", "shift"):
            with self.assertRaises(AttributeError):
                setattr(term, name, "bob")
        self.assertEqual(term, Term("ann", 3))


class ValueTest(Case):
    def test_the_value_is_the_time_plus_the_shift(self):
        for shift, time in itertools.product((0, 3, -2, BIG, LOW), repeat=2):
            self.same(Term("ann", shift)({"ann": time}), time + shift)
            self.same(Term("ann", shift)(times={"bob": 7, "ann": time, "cat": LOW}), time + shift)

    def test_no_times(self):
        for value in NO_TIMES:
            with self.subTest(value=value):
                self.fails(InvalidTimes, {"value": value}, Term("a", 3), value)
                self.fails(InvalidTimes, {"value": value}, Term("a", 3), times=value)

    def test_times_without_the_moment(self):
        for value in ({"b": 1}, {"aa": 1}, {"b": 1, "c": 2}):
            self.fails(InvalidTimes, {"value": value}, Term("a", 3), value)

    def test_a_refused_call_changes_nothing(self):
        term = Term("a", 3)
        times = {"a": 1, "b": True}
        self.fails(InvalidTimes, {"value": {"a": 1, "b": True}}, term, times)
        times["b"] = 1
        self.same([term(times), term(times)], [4, 4])
        self.assertEqual(times, {"a": 1, "b": 1})


class SumTest(Case):
    def test_sums_on_both_sides_and_differences(self):
        for shift, number in itertools.product((0, 3, -2, BIG, LOW), repeat=2):
            term = Term("ann", shift)
            for found, wanted in (
                (term + number, shift + number), (number + term, number + shift), (term - number, shift - number),
            ):
                self.same(found, Term("ann", wanted))
                self.same(found.shift, wanted)
            self.assertEqual(term, Term("ann", shift))

    def test_no_numbers(self):
        term = Term("ann", 3)
        for value in NO_INTEGERS:
            with self.subTest(value=value):
                self.fails(InvalidShift, {"value": value}, lambda number: term + number, value)
                self.fails(InvalidShift, {"value": value}, lambda number: term - number, value)
        for value in (None, True, False, "", "1", [1], (1,), {1: 1}, b"a", object()):
            with self.subTest(left=value):
                self.fails(InvalidShift, {"value": value}, lambda number: number + term, value)
        self.same(term + 1, Term("ann", 4))
        self.same(term, Term("ann", 3))

    def test_the_sum_is_another_term(self):
        term = Term("ann", 3)
        other = term
        other += 4
        self.same([term, other], [Term("ann", 3), Term("ann", 7)])


class TogetherTest(Case):
    def test_of_two_moments_both_are_left(self):
        self.same(Term("bob", -2) | Term("ann", 3), Earliest({"ann": 3, "bob": -2}))
        self.same((Term("bob", BIG) | Term("ann", LOW)).shifts(), {"ann": LOW, "bob": BIG})

    def test_of_one_moment_the_least_shift_is_left(self):
        for one, other in itertools.product((0, 3, -2, BIG, LOW), repeat=2):
            self.same(Term("ann", one) | Term("ann", other), Earliest({"ann": min(one, other)}))

    def test_with_an_earliest_on_either_side(self):
        earliest = Earliest({"ann": 3, "cat": 1})
        rows = [(Term("bob", 5), {"ann": 3, "bob": 5, "cat": 1}), (Term("ann", 2), {"ann": 2, "cat": 1}),
                (Term("ann", 4), {"ann": 3, "cat": 1}), (Term("cat", 1), {"ann": 3, "cat": 1})]
        for term, shifts in rows:
            with self.subTest(str(term)):
                self.same((term | earliest).shifts(), shifts)
                self.same((earliest | term).shifts(), shifts)
        self.same(earliest, Earliest({"ann": 3, "cat": 1}))

    def test_at_most_eight_moments(self):
        seven = Earliest({name: 1 for name in EIGHT[:7]})
        eight = Earliest({name: 1 for name in EIGHT})
        self.same(len(seven | Term("h")), 8)
        self.same(len(Term("h") | seven), 8)
        self.same((eight | Term("h")).shifts(), {**{name: 1 for name in EIGHT[:7]}, "h": 0})
        told = {"what": "terms", "limit": 8}
        self.fails(TooMany, told, lambda: eight | Term("i"))
        self.fails(TooMany, told, lambda: Term("i") | eight)
        self.same(eight, Earliest({name: 1 for name in EIGHT}))
        self.same(Term("a", 0) | eight, Earliest({**{name: 1 for name in EIGHT}, "a": 0}))

    def test_nothing_else_can_be_put_together(self):
        for value in (None, 1, "a", {}, [], True):
            for use in (lambda: Term("a") | value, lambda: value | Term("a")):
                with self.assertRaises(TypeError):
                    use()


class LikenessTest(Case):
    def test_equal_terms(self):
        self.assertIs(Term("ann", 3) == Term("ann", 3), True)
        self.assertIs(Term("ann", 3) != Term("ann", 3), False)
        self.assertIs(Term("ann") == Term("ann", 0), True)
        self.assertIs(Term("ann", BIG) == Term("ann", BIG), True)

    def test_unlike_terms(self):
        for other in (Term("ann", 4), Term("ann", -3), Term("bob", 3), Term("an", 3)):
            self.assertIs(Term("ann", 3) == other, False)
            self.assertIs(Term("ann", 3) != other, True)

    def test_values_of_other_kinds(self):
        for value in [*NO_INTEGERS, 3, "ann+3", ("ann", 3), {"ann": 3}, Earliest.of(ann=3)]:
            self.assertIs(Term("ann", 3) == value, False)
            self.assertIs(value == Term("ann", 3), False)


class TextTest(Case):
    def test_texts(self):
        rows = [
            (0, "ann"), (3, "ann+3"), (-2, "ann-2"), (10, "ann+10"), (BIG, "ann+" + str(BIG)), (LOW, "ann" + str(LOW)),
        ]
        for shift, text in rows:
            self.same(str(Term("ann", shift)), text)

    def test_reprs_have_both(self):
        rows = [(0, "Term('ann', 0)"), (3, "Term('ann', 3)"), (-2, "Term('ann', -2)"), (LOW, f"Term('ann', {LOW})")]
        for shift, text in rows:
            self.same(repr(Term("ann", shift)), text)
            self.assertEqual(eval(text), Term("ann", shift))
