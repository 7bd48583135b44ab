"""Earliests ([13] to [15]): making, telling, values, putting together, never later, put in."""

import itertools

from anyofthese.earliest import Earliest
from anyofthese.errors import InvalidShift, InvalidShifts, InvalidTimes, LastOne, TooMany, UnknownMoment
from anyofthese.terms import Term
from tests.samples import BIG, EIGHT, LOW, NAMES, NO_INTEGERS, NO_NAMES, NO_TIMES, ODD_VALUES, Case

NINE = EIGHT + ["i"]


def hashable(values):
    """Those of the values that can be keys of a dict."""
    return [value for value in values if getattr(value, "__hash__", None)]


def all_earliests(moments, shifts):
    """All Earliests of one or more of the moments with some of the shifts."""
    found = []
    for chosen in itertools.product([None, *shifts], repeat=len(moments)):
        table = {moment: shift for moment, shift in zip(moments, chosen) if shift is not None}
        if table:
            found.append(Earliest(table))
    return found


class MakingTest(Case):
    def test_keys_in_any_sequence(self):
        for keys in itertools.permutations(["bob", "ann", "cat"]):
            earliest = Earliest({key: len(key) * ord(key[0]) for key in keys})
            self.same(earliest.shifts(), {"ann": 291, "bob": 294, "cat": 297})
            self.same(earliest.moments, ("ann", "bob", "cat"))
            self.same(repr(earliest), "Earliest({'ann': 291, 'bob': 294, 'cat': 297})")

    def test_by_the_name_of_the_parameter(self):
        self.same(Earliest(shifts={"ann": BIG}), Earliest({"ann": BIG}))

    def test_with_keywords(self):
        self.same(Earliest.of(bob=-2, ann=3), Earliest({"ann": 3, "bob": -2}))
        self.same(Earliest.of(bob=LOW, ann=BIG).shifts(), {"ann": BIG, "bob": LOW})
        self.same(Earliest.of(**{name: 1 for name in NAMES}).moments, tuple(sorted(NAMES)))

    def test_no_dict_from_names(self):
        for value in [*[value for value in ODD_VALUES if value != {"a": 1}], 5, "a", [("a", 1)], (("a", 1),)]:
            with self.subTest(value=value):
                self.fails(InvalidShifts, {"name": None}, Earliest, value)
                self.fails(InvalidShifts, {"name": None}, Earliest, shifts=value)

    def test_keys_that_are_no_names(self):
        for key in hashable(NO_NAMES):
            with self.subTest(key=key):
                self.fails(InvalidShifts, {"name": None}, Earliest, {key: 1})
                self.fails(InvalidShifts, {"name": None}, Earliest, {"a": 1, key: 1, "b": 2})
                self.fails(InvalidShifts, {"name": None}, Earliest, {key: True, "a": None})

    def test_keywords_that_are_no_names(self):
        self.fails(InvalidShifts, {"name": None}, Earliest.of)
        for key in ("Ann", "abcdefghi", "a_b", "a1"):
            self.fails(InvalidShifts, {"name": None}, Earliest.of, **{"ann": 1, key: 1})

    def test_values_that_are_no_integers(self):
        for value in NO_INTEGERS:
            with self.subTest(value=value):
                self.fails(InvalidShifts, {"name": "b"}, Earliest, {"c": 1, "b": value, "a": 0})
                self.fails(InvalidShifts, {"name": "b"}, Earliest.of, c=1, b=value, a=0)

    def test_the_first_key_sorted_is_told(self):
        for keys in itertools.permutations(["d", "b", "c"]):
            self.fails(InvalidShifts, {"name": "b"}, Earliest, {"a": 0, **{key: None for key in keys}})
        self.fails(InvalidShifts, {"name": "a"}, Earliest, {"z": True, "a": False})

    def test_one_to_eight_terms(self):
        for many in range(1, 9):
            self.same(len(Earliest({name: 1 for name in EIGHT[:many]})), many)
        told = {"what": "terms", "limit": 8}
        self.fails(TooMany, told, Earliest, {name: 1 for name in NINE})
        self.fails(TooMany, told, Earliest.of, **{name: 1 for name in NINE})
        self.fails(TooMany, told, Earliest, {letter: 1 for letter in "abcdefghijklmnopqrstuvwxyz"})

    def test_too_many_comes_last(self):
        self.fails(InvalidShifts, {"name": None}, Earliest, {**{name: 1 for name in NINE}, "A": 1})
        self.fails(InvalidShifts, {"name": "i"}, Earliest, {**{name: 1 for name in EIGHT}, "i": True})

    def test_a_dict_that_is_changed_later_has_no_effect(self):
        shifts = {"ann": 3, "bob": -2}
        earliest = Earliest(shifts)
        shifts["ann"] = 9
        shifts["cat"] = 1
        del shifts["bob"]
        self.same(earliest.shifts(), {"ann": 3, "bob": -2})

    def test_a_passed_dict_stays(self):
        shifts = {"bob": -2, "ann": 3}
        Earliest(shifts)
        self.assertEqual(list(shifts.items()), [("bob", -2), ("ann", 3)])


class TellingTest(Case):
    def setUp(self):
        self.earliest = Earliest({"bob": -2, "ann": BIG, "cat": 0})

    def test_moments(self):
        self.same(self.earliest.moments, ("ann", "bob", "cat"))
        with self.assertRaises(AttributeError):
            self.earliest.moments = ("ann",)

    def test_told_shifts_are_new(self):
        told = self.earliest.shifts()
        self.same(told, {"ann": BIG, "bob": -2, "cat": 0})
        told["ann"] = 1
        del told["bob"]
        self.same(self.earliest.shifts(), {"ann": BIG, "bob": -2, "cat": 0})
        self.assertIsNot(self.earliest.shifts(), self.earliest.shifts())

    def test_shift_of_a_moment(self):
        self.same([self.earliest[name] for name in ("ann", "bob", "cat")], [BIG, -2, 0])

    def test_shift_of_no_moment(self):
        for value in [*NO_NAMES, "dan", "an", slice(0, 1), ("ann",), ["ann"]]:
            with self.subTest(value=value):
                self.fails(UnknownMoment, {"value": value}, lambda at: self.earliest[at], value)

    def test_in(self):
        for value in ("ann", "bob", "cat"):
            self.assertIs(value in self.earliest, True)
        for value in [*NO_NAMES, "dan", "an", BIG, -2, {"ann": BIG}, Term("ann", BIG), {1, 2}, True]:
            self.assertIs(value in self.earliest, False)
            self.assertIs(value not in self.earliest, True)

    def test_len(self):
        self.same(len(self.earliest), 3)
        self.same(len(Earliest.of(a=0)), 1)

    def test_it_is_not_iterated_over(self):
        self.not_iterated(self.earliest)


class ValueTest(Case):
    def test_the_least_of_the_values(self):
        earliest = Earliest.of(ann=3, bob=-2, cat=0)
        for ann, bob, cat in itertools.product((-6, 0, 5, 6), repeat=3):
            times = {"cat": cat, "ann": ann, "bob": bob}
            values = {"ann": ann + 3, "bob": bob - 2, "cat": cat}
            least = min(values.values())
            self.same(earliest(times), least)
            self.same(earliest(times={**times, "dan": -50}), least)
            self.same(earliest.first(times), tuple(name for name in ("ann", "bob", "cat") if values[name] == least))
            self.same(earliest.first(times=times), earliest.first({**times, "a": -50}))

    def test_one_term(self):
        self.same(Earliest.of(ann=3)({"ann": 4}), 7)
        self.same(Earliest.of(ann=3).first({"ann": 4, "bob": 0}), ("ann",))

    def test_great_numbers(self):
        earliest = Earliest.of(ann=BIG, bob=LOW, cat=0)
        times = {"ann": LOW, "bob": BIG, "cat": BIG + LOW}
        self.same(earliest(times), BIG + LOW)
        self.same(earliest.first(times), ("ann", "bob", "cat"))
        self.same(earliest({**times, "cat": BIG + LOW - 1}), BIG + LOW - 1)
        self.same(earliest.first({**times, "cat": BIG + LOW - 1}), ("cat",))
        self.same(earliest.first({**times, "ann": LOW + 1}), ("bob", "cat"))

    def test_no_times(self):
        earliest = Earliest.of(a=0)
        for value in [*NO_TIMES, {"b": 1}]:
            with self.subTest(value=value):
                for call in (earliest, earliest.first):
                    self.fails(InvalidTimes, {"value": value}, call, value)
                    self.fails(InvalidTimes, {"value": value}, call, times=value)

    def test_times_without_some_moment(self):
        earliest = Earliest.of(a=0, b=0, c=0)
        for value in ({"a": 1, "b": 2}, {"a": 1, "c": 2}, {"b": 1, "c": 2}, {"a": 1}, {"d": 1, "a": 1, "b": 1}):
            for call in (earliest, earliest.first):
                self.fails(InvalidTimes, {"value": value}, call, value)
        self.same([earliest({"a": 1, "b": 2, "c": 3}), earliest.first({"a": 1, "b": 2, "c": 3})], [1, ("a",)])


class SumTest(Case):
    def test_sums_on_both_sides_and_differences(self):
        for number in (0, 1, -3, BIG, LOW):
            earliest = Earliest.of(bob=-2, ann=BIG)
            self.same((earliest + number).shifts(), {"ann": BIG + number, "bob": number - 2})
            self.same((number + earliest).shifts(), {"ann": BIG + number, "bob": number - 2})
            self.same((earliest - number).shifts(), {"ann": BIG - number, "bob": -2 - number})
            self.same(earliest.shifts(), {"ann": BIG, "bob": -2})

    def test_no_numbers(self):
        earliest = Earliest.of(ann=3)
        for value in NO_INTEGERS:
            with self.subTest(value=value):
                self.fails(InvalidShift, {"value": value}, lambda number: earliest + number, value)
                self.fails(InvalidShift, {"value": value}, lambda number: earliest - number, value)
        for value in (None, True, False, "", "1", [1], (1,), {1: 1}, b"a", object()):
            with self.subTest(left=value):
                self.fails(InvalidShift, {"value": value}, lambda number: number + earliest, value)
        self.same(earliest + 1, Earliest.of(ann=4))


class TogetherTest(Case):
    def test_two_earliests(self):
        one = Earliest.of(ann=3, bob=-2, cat=0)
        other = Earliest.of(dan=7, cat=-1, bob=5, ann=3)
        wanted = {"ann": 3, "bob": -2, "cat": -1, "dan": 7}
        self.same((one | other).shifts(), wanted)
        self.same((other | one).shifts(), wanted)
        self.same(one, Earliest.of(ann=3, bob=-2, cat=0))
        self.same(other, Earliest.of(dan=7, cat=-1, bob=5, ann=3))
        self.same(one | one, one)
        self.same((Earliest.of(a=BIG) | Earliest.of(a=LOW)).shifts(), {"a": LOW})

    def test_the_value_is_the_lesser_one_of_both(self):
        for one, other in itertools.product(all_earliests(["a", "b"], [-1, 2]), repeat=2):
            for a, b in itertools.product(range(-3, 4), repeat=2):
                times = {"a": a, "b": b}
                self.same((one | other)(times), min(one(times), other(times)))

    def test_at_most_eight_moments(self):
        one = Earliest({name: 1 for name in EIGHT[:5]})
        other = Earliest({name: 2 for name in EIGHT[3:]})
        self.same((one | other).shifts(), {**{name: 1 for name in EIGHT[:5]}, **{name: 2 for name in EIGHT[5:]}})
        told = {"what": "terms", "limit": 8}
        self.fails(TooMany, told, lambda: one | Earliest({name: 1 for name in NINE[5:]}))
        self.fails(TooMany, told, lambda: Earliest({name: 1 for name in NINE[5:]}) | one)
        self.same(one, Earliest({name: 1 for name in EIGHT[:5]}))

    def test_nothing_else_can_be_put_together(self):
        for value in (None, 1, "a", {"a": 1}, [], True):
            for use in (lambda: Earliest.of(a=1) | value, lambda: value | Earliest.of(a=1)):
                with self.assertRaises(TypeError):
                    use()


class NeverLaterTest(Case):
    def test_as_the_fact_says(self):
        one = Earliest.of(ann=3, bob=-2)
        rows = [
            (Earliest.of(ann=3, bob=-2), True), (Earliest.of(ann=4), True), (Earliest.of(ann=3), True),
            (Earliest.of(ann=2), False), (Earliest.of(bob=-2), True), (Earliest.of(bob=-3, ann=9), False),
            (Earliest.of(ann=BIG, bob=BIG), True), (Earliest.of(ann=LOW, bob=BIG), False), (Earliest.of(cat=9), False),
            (Earliest.of(ann=3, bob=-2, cat=BIG), False), (Earliest.of(aa=BIG), False),
        ]
        for other, wanted in rows:
            with self.subTest(str(other)):
                self.assertIs(one.is_never_later(other), wanted)
                self.assertIs(one.is_never_later(other=other), wanted)

    def test_exactly_if_it_is_so_at_all_times(self):
        # Shifts lie between -1 and 1, so times from -3 to 3 show each difference there is.
        earliests = all_earliests(["a", "b", "c"], [-1, 1])
        times = [dict(zip("abc", row)) for row in itertools.product((-3, 0, 3), repeat=3)]
        for one, other in itertools.product(earliests, repeat=2):
            self.assertIs(one.is_never_later(other), all(one(row) <= other(row) for row in times))

    def test_none_of_both_changes(self):
        one, other = Earliest.of(ann=3, bob=-2), Earliest.of(ann=4)
        one.is_never_later(other)
        self.same([one, other], [Earliest.of(ann=3, bob=-2), Earliest.of(ann=4)])


class WithoutTest(Case):
    def test_without_a_moment(self):
        earliest = Earliest.of(ann=BIG, bob=-2, cat=0)
        self.same(earliest.without("bob").shifts(), {"ann": BIG, "cat": 0})
        self.same(earliest.without(moment="ann").without("cat").shifts(), {"bob": -2})
        self.same(earliest.shifts(), {"ann": BIG, "bob": -2, "cat": 0})

    def test_the_last_one_stays(self):
        self.fails(LastOne, {"value": "ann"}, Earliest.of(ann=3).without, "ann")

    def test_no_moment_of_it(self):
        for earliest in (Earliest.of(ann=3), Earliest.of(ann=3, bob=0)):
            for value in [*NO_NAMES, "cat"]:
                with self.subTest(value=value):
                    self.fails(UnknownMoment, {"value": value}, earliest.without, value)
                    self.fails(UnknownMoment, {"value": value}, earliest.without, moment=value)


class PutInTest(Case):
    def test_the_shift_of_the_replaced_term_is_added(self):
        earliest = Earliest.of(ann=3, bob=-2)
        self.same(earliest.put_in("bob", Earliest.of(cat=0, dan=5)).shifts(), {"ann": 3, "cat": -2, "dan": 3})
        self.same(earliest.put_in(earliest=Earliest.of(cat=BIG), moment="ann").shifts(), {"bob": -2, "cat": BIG + 3})
        self.same(earliest, Earliest.of(ann=3, bob=-2))

    def test_moments_that_both_have(self):
        earliest = Earliest.of(ann=3, bob=-2)
        self.same(earliest.put_in("bob", Earliest.of(ann=4, cat=0)).shifts(), {"ann": 2, "cat": -2})
        self.same(earliest.put_in("bob", Earliest.of(ann=6)).shifts(), {"ann": 3})
        self.same(earliest.put_in("bob", Earliest.of(ann=5)).shifts(), {"ann": 3})

    def test_the_replaced_moment_among_the_terms(self):
        self.same(Earliest.of(ann=3, bob=-2).put_in("bob", Earliest.of(bob=7)).shifts(), {"ann": 3, "bob": 5})
        self.same(Earliest.of(ann=3, bob=-2).put_in("bob", Earliest.of(bob=-7, ann=0)).shifts(), {"ann": -2, "bob": -9})

    def test_with_itself(self):
        earliest = Earliest.of(ann=3, bob=-2)
        self.same(earliest.put_in("ann", earliest).shifts(), {"ann": 6, "bob": -2})
        self.same(earliest.put_in("bob", earliest).shifts(), {"ann": 1, "bob": -4})
        self.same(earliest.shifts(), {"ann": 3, "bob": -2})

    def test_a_term_stands_for_its_earliest(self):
        self.same(Earliest.of(ann=3, bob=-2).put_in("bob", Term("cat", 1)), Earliest.of(ann=3, cat=-1))
        self.same(Earliest.of(ann=3).put_in("ann", earliest=Term("cat")), Earliest.of(cat=3))

    def test_the_only_term(self):
        self.same(Earliest.of(ann=3).put_in("ann", Earliest.of(bob=LOW, cat=1)).shifts(), {"bob": LOW + 3, "cat": 4})
        self.same(Earliest.of(ann=3).put_in("ann", Earliest.of(ann=3)).shifts(), {"ann": 6})

    def test_the_value_is_that_with_the_other_value_as_time(self):
        for one, other in itertools.product(all_earliests(["a", "b"], [-1, 2]), all_earliests(["a", "b", "c"], [0, 1])):
            for moment in one.moments:
                for row in itertools.product((-3, 0, 1), repeat=3):
                    times = dict(zip("abc", row))
                    self.same(one.put_in(moment, other)(times), one({**times, moment: other(times)}))

    def test_beyond_eight_moments(self):
        five = Earliest({name: 1 for name in EIGHT[:5]})
        self.same(five.put_in("a", Earliest({name: 1 for name in EIGHT[4:]})).moments, tuple("bcdefgh"))
        self.same(five.put_in("a", Earliest({name: 1 for name in NINE[5:]})).moments, tuple("bcdefghi"))
        told = {"what": "terms", "limit": 8}
        self.fails(TooMany, told, five.put_in, "a", Earliest({name: 1 for name in ["a", *NINE[5:]]}))
        self.fails(TooMany, told, five.put_in, "b", earliest=Earliest({name: 1 for name in NINE[4:] + ["j"]}))
        self.same(five, Earliest({name: 1 for name in EIGHT[:5]}))

    def test_no_moment_of_it(self):
        eight = Earliest({name: 1 for name in EIGHT})
        for value in [*NO_NAMES, "i", "ann"]:
            with self.subTest(value=value):
                self.fails(UnknownMoment, {"value": value}, eight.put_in, value, Term("b"))
        self.fails(UnknownMoment, {"value": "ann"}, eight.put_in, "ann", Earliest({name: 1 for name in NINE[1:]}))


class LikenessTest(Case):
    def test_equal_ones(self):
        self.assertIs(Earliest.of(ann=3, bob=BIG) == Earliest({"bob": BIG, "ann": 3}), True)
        self.assertIs(Earliest.of(ann=3, bob=BIG) != Earliest({"bob": BIG, "ann": 3}), False)

    def test_unlike_ones(self):
        for other in (
            Earliest.of(ann=3), Earliest.of(ann=3, bob=1), Earliest.of(ann=3, bob=0, cat=0), Earliest.of(ann=3, cat=0),
        ):
            self.assertIs(Earliest.of(ann=3, bob=0) == other, False)
            self.assertIs(Earliest.of(ann=3, bob=0) != other, True)

    def test_values_of_other_kinds(self):
        for value in [*NO_INTEGERS, {"ann": 3}, "ann+3", ("ann",), Term("ann", 3), 3]:
            self.assertIs(Earliest.of(ann=3) == value, False)
            self.assertIs(value == Earliest.of(ann=3), False)


class TextTest(Case):
    def test_texts(self):
        rows = [({"ann": 3}, "ann+3"), ({"bob": -2, "ann": 3, "cat": 0}, "ann+3 bob-2 cat"), ({"a": 0}, "a"),
                ({"z": LOW, "y": BIG}, f"y+{BIG} z{LOW}")]
        for shifts, text in rows:
            self.same(str(Earliest(shifts)), text)

    def test_reprs(self):
        rows = [({"ann": 3}, "Earliest({'ann': 3})"), ({"bob": -2, "ann": 0}, "Earliest({'ann': 0, 'bob': -2})")]
        for shifts, text in rows:
            self.same(repr(Earliest(shifts)), text)
            self.assertEqual(eval(text), Earliest(shifts))


class AgainTest(Case):
    def test_repeated_calls_answer_the_same(self):
        earliest = Earliest.of(ann=3, bob=-2)
        times = {"ann": 0, "bob": 5}
        calls = [
            lambda: earliest.shifts(), lambda: earliest.moments, lambda: earliest(times), lambda: earliest.first(times),
            lambda: earliest | Term("cat"), lambda: earliest + 1, lambda: earliest.without("ann"),
            lambda: earliest.put_in("bob", Term("cat")), lambda: earliest.is_never_later(earliest),
            lambda: str(earliest), lambda: len(earliest),
        ]
        for call in calls:
            self.same(call(), call())
        self.assertEqual(times, {"ann": 0, "bob": 5})
