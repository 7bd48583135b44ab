"""Books ([24]): making, telling, books made of books, and runs of a book."""

import itertools

from anyofthese.books import Book, first_broken, is_run
from anyofthese.earliest import Earliest
from anyofthese.errors import (
    InvalidMoments, InvalidNames, InvalidPosition, InvalidPositions, InvalidRules, InvalidTimes, TooMany, UnknownMoment,
)
from anyofthese.rules import Rule
from anyofthese.runs import Run
from anyofthese.terms import Term
from tests.samples import BIG, EIGHT, LOW, NAMES, NO_INTEGERS, NO_NAMES, NO_TIMES, ODD_VALUES, Case

A_B = Rule("a", Term("b"))
B_C = Rule("b", Term("c", 2) | Term("a"))
C_C = Rule("c", Term("c", -1))
HUNDRED = [Rule("a", Term("a", -number)) for number in range(100)]
NINE = EIGHT + ["i"]
TOO_MANY_RULES = {"what": "rules", "limit": 100}
TOO_MANY_MOMENTS = {"what": "moments", "limit": 8}


def abc():
    return Book(["c", "a", "b"], [A_B, B_C, A_B])


class MakingTest(Case):
    def test_moments_in_any_sequence(self):
        for moments in itertools.permutations(["shop", "ann", "bus"]):
            for passed in (moments, list(moments)):
                self.same(Book(passed).moments, ("ann", "bus", "shop"))
                self.same(Book(passed), Book(["ann", "bus", "shop"]))

    def test_names(self):
        for name in NAMES:
            self.same(Book([name]).moments, (name,))

    def test_rules_in_a_list_or_a_tuple(self):
        for rules in ([A_B, B_C, A_B], (A_B, B_C, A_B)):
            for book in (Book(["a", "b", "c"], rules), Book(rules=rules, moments=("a", "b", "c"))):
                self.same(book.rules(), [A_B, B_C, A_B])

    def test_without_rules(self):
        for book in (Book(["a"]), Book(["a"], []), Book(["a"], ()), Book(moments=["a"])):
            self.same(book.rules(), [])
            self.same(len(book), 0)

    def test_no_list_of_moments(self):
        for value in [*[value for value in ODD_VALUES if value not in (["a"], ("a",))], 5, "a", "ab", {"a", "b"}, ""]:
            with self.subTest(value=value):
                self.fails(InvalidMoments, {"position": None}, Book, value)
                self.fails(InvalidMoments, {"position": None}, Book, moments=value, rules=None)

    def test_moments_that_are_no_names(self):
        for value in NO_NAMES:
            with self.subTest(value=value):
                self.fails(InvalidMoments, {"position": 0}, Book, [value])
                self.fails(InvalidMoments, {"position": 2}, Book, ["a", "b", value, "c", value], None)
                self.fails(InvalidMoments, {"position": 1}, Book, ("c", value, "c"))

    def test_moments_that_stand_a_second_time(self):
        self.fails(InvalidMoments, {"position": 1}, Book, ["a", "a"])
        self.fails(InvalidMoments, {"position": 2}, Book, ["a", "b", "a", "b"])
        self.fails(InvalidMoments, {"position": 3}, Book, ("c", "b", "a", "b", "Ann"))

    def test_one_to_eight_moments(self):
        for many in range(1, 9):
            self.same(Book(EIGHT[:many]).moments, tuple(EIGHT[:many]))
        self.fails(TooMany, TOO_MANY_MOMENTS, Book, NINE)
        self.fails(TooMany, TOO_MANY_MOMENTS, Book, tuple("zyxwvutsrqponml"), None)

    def test_wrong_moments_come_ahead_of_too_many(self):
        self.fails(InvalidMoments, {"position": 8}, Book, [*EIGHT, "A"])
        self.fails(InvalidMoments, {"position": 9}, Book, [*NINE, "a"])

    def test_no_list_of_rules(self):
        for value in [*[value for value in ODD_VALUES if value not in ([], ["a"], (), ("a",))], 5, "a", {1}]:
            with self.subTest(value=value):
                self.fails(InvalidRules, {"position": None}, Book, ["a", "b"], value)
                self.fails(InvalidRules, {"position": None}, Book, moments=["a", "b"], rules=value)

    def test_rules_that_are_none(self):
        for value in [*[value for value in ODD_VALUES if not isinstance(value, Rule)], "rule a b", 5, [A_B]]:
            with self.subTest(value=value):
                self.fails(InvalidRules, {"position": 0}, Book, ["a", "b"], [value])
                self.fails(InvalidRules, {"position": 1}, Book, ["a", "b"], (A_B, value, value))

    def test_rules_with_unknown_moments(self):
        self.fails(InvalidRules, {"position": 1}, Book, ["a", "b"], [A_B, B_C])
        self.fails(InvalidRules, {"position": 0}, Book, ["a", "c"], [B_C, None])
        self.fails(InvalidRules, {"position": 1}, Book, ["a", "c"], [C_C, A_B])
        self.fails(InvalidRules, {"position": 0}, Book, ["b", "c"], [A_B, A_B])
        self.fails(InvalidRules, {"position": 0}, Book, ["b", "c"], [Rule("b", Term("a") | Term("c"))])

    def test_up_to_a_hundred_rules(self):
        self.same(len(Book(["a"], HUNDRED)), 100)
        self.fails(TooMany, TOO_MANY_RULES, Book, ["a"], [*HUNDRED, HUNDRED[0]])
        self.fails(TooMany, TOO_MANY_RULES, Book, ["a"], tuple(HUNDRED * 2))
        self.fails(InvalidRules, {"position": 100}, Book, ["a"], [*HUNDRED, A_B])
        self.fails(InvalidRules, {"position": 105}, Book, ["a"], [*HUNDRED, *HUNDRED[:5], None])

    def test_moments_come_ahead_of_rules(self):
        self.fails(TooMany, TOO_MANY_MOMENTS, Book, NINE, [None])
        self.fails(InvalidMoments, {"position": 0}, Book, [None], HUNDRED * 2)

    def test_limits_are_class_values(self):
        self.same([Book.MOST_MOMENTS, Book.MOST_RULES], [8, 100])
        self.same([abc().MOST_MOMENTS, abc().MOST_RULES], [8, 100])

    def test_lists_that_are_changed_later_have_no_effect(self):
        moments, rules = ["b", "a"], [A_B]
        book = Book(moments, rules)
        self.same([moments, rules], [["b", "a"], [A_B]])
        moments.append("c")
        rules.append(A_B)
        rules[0] = None
        self.same([book.moments, book.rules()], [("a", "b"), [A_B]])


class TellingTest(Case):
    def test_told_rules_are_new(self):
        book = abc()
        book.rules().clear()
        book.rules()[0] = None
        self.same(book.rules(), [A_B, B_C, A_B])
        self.assertIsNot(book.rules(), book.rules())

    def test_moments_cannot_be_set(self):
        with self.assertRaises(AttributeError):
            abc().moments = ("a",)

    def test_rule_at_a_position(self):
        self.same([abc()[at] for at in range(3)], [A_B, B_C, A_B])

    def test_no_positions(self):
        for value in [*NO_INTEGERS, -1, -3, 3, 4, BIG, LOW, slice(0, 1), slice(None)]:
            with self.subTest(value=value):
                self.fails(InvalidPosition, {"value": value}, lambda at: abc()[at], value)
        self.fails(InvalidPosition, {"value": 0}, lambda: Book(["a"])[0])

    def test_len(self):
        self.same([len(abc()), len(Book(["a"])), len(Book(["a"], HUNDRED))], [3, 0, 100])

    def test_in(self):
        for value in (A_B, Rule("a", Earliest.of(b=0)), B_C):
            self.assertIs(value in abc(), True)
            self.assertIs(value in Book(["a", "b", "c"]), False)
        others = [value for value in ODD_VALUES if not isinstance(value, Rule)]
        for value in [*others, C_C, Rule("b", Term("a")), A_B + 1, "a", "rule a b", 0, 1, slice(0, 1), [A_B]]:
            self.assertIs(value in abc(), False)
            self.assertIs(value not in abc(), True)

    def test_it_is_not_iterated_over(self):
        self.not_iterated(abc())
        self.not_iterated(Book(["a"]))

    def test_rules_of_a_moment(self):
        rows = [("a", [0, 2]), ("b", [1]), ("c", [])]
        for moment, positions in rows:
            self.same(abc().rules_of(moment), positions)
            self.same(abc().rules_of(moment=moment), positions)
        book = abc()
        book.rules_of("a").clear()
        self.same(book.rules_of("a"), [0, 2])

    def test_rules_of_no_moment(self):
        for value in [*NO_NAMES, "d", "ab", 1]:
            with self.subTest(value=value):
                self.fails(UnknownMoment, {"value": value}, abc().rules_of, value)
                self.fails(UnknownMoment, {"value": value}, abc().rules_of, moment=value)


class BothTest(Case):
    def test_moments_of_both_and_rules_of_one_then_of_other(self):
        one, other = Book(["b", "a"], [A_B, A_B + 1]), Book(["c", "b"], [C_C, Rule("b", Term("c"))])
        self.same(one & other, Book(["a", "b", "c"], [A_B, A_B + 1, C_C, Rule("b", Term("c"))]))
        self.same(other & one, Book(["a", "b", "c"], [C_C, Rule("b", Term("c")), A_B, A_B + 1]))
        self.same(one & one, Book(["a", "b"], [A_B, A_B + 1, A_B, A_B + 1]))
        self.same((one & Book(["d"])).moments, ("a", "b", "d"))
        self.same(one, Book(["b", "a"], [A_B, A_B + 1]))

    def test_too_many(self):
        full = Book(EIGHT, HUNDRED)
        self.same(full & Book(["h"]), full)
        self.same(Book(EIGHT[:4], HUNDRED[:60]) & Book(EIGHT[3:] + ["a"], HUNDRED[60:]), full)
        self.fails(TooMany, TOO_MANY_MOMENTS, lambda: full & Book(["i"]))
        self.fails(TooMany, TOO_MANY_MOMENTS, lambda: full & Book(["i"], [Rule("i", Term("i"))]))
        self.fails(TooMany, TOO_MANY_RULES, lambda: full & Book(["a"], HUNDRED[:1]))
        self.same(full, Book(EIGHT, HUNDRED))

    def test_nothing_else_goes_with_a_book(self):
        for value in (None, 1, "a", [], {}, A_B, Run.of(a=0)):
            for use in (lambda: abc() & value, lambda: value & abc()):
                with self.assertRaises(TypeError):
                    use()


class WithTest(Case):
    def test_rules_behind_its_own(self):
        book = abc()
        self.same(book.with_rules(C_C, A_B), Book(["a", "b", "c"], [A_B, B_C, A_B, C_C, A_B]))
        self.same(book.with_rules(), book)
        self.same(book, abc())

    def test_unknown_moments(self):
        book = Book(["a", "b"], [A_B])
        rows = [
            ([Rule("x", Term("y"))], "x"), ([Rule("a", Earliest.of(z=0, y=0, a=0))], "y"), ([B_C], "c"),
            ([A_B, C_C, Rule("x", Term("a"))], "c"), ([A_B, Rule("z", Earliest.of(y=0, b=0)), C_C], "z"),
            ([Rule("b", Earliest.of(b=0, q=1))], "q"),
        ]
        for rules, name in rows:
            self.fails(UnknownMoment, {"value": name}, book.with_rules, *rules)
        self.same(book.with_rules(A_B), Book(["a", "b"], [A_B, A_B]))

    def test_too_many(self):
        book = Book(["a"], HUNDRED[:98])
        self.same(len(book.with_rules(*HUNDRED[:2])), 100)
        self.fails(TooMany, TOO_MANY_RULES, book.with_rules, *HUNDRED[:3])
        self.fails(UnknownMoment, {"value": "b"}, book.with_rules, *HUNDRED[:3], A_B)
        self.same(len(book), 98)


class WithoutTest(Case):
    def test_without_positions(self):
        book = Book(["a"], HUNDRED[:4])
        self.same(book.without(1), Book(["a"], [HUNDRED[0], HUNDRED[2], HUNDRED[3]]))
        self.same(book.without(3, 0), Book(["a"], HUNDRED[1:3]))
        self.same(book.without(2, 0, 3, 1), Book(["a"]))
        self.same(book.without(), book)
        self.same(book, Book(["a"], HUNDRED[:4]))

    def test_no_positions(self):
        for value in [*NO_INTEGERS, -1, -3, 3, 4, BIG, LOW]:
            with self.subTest(value=value):
                self.fails(InvalidPositions, {"position": 0}, abc().without, value)
                self.fails(InvalidPositions, {"position": 2}, abc().without, 0, 2, value, value)

    def test_a_position_a_second_time(self):
        self.fails(InvalidPositions, {"position": 1}, abc().without, 0, 0)
        self.fails(InvalidPositions, {"position": 2}, abc().without, 2, 1, 2, 1, -1)
        self.fails(InvalidPositions, {"position": 0}, Book(["a"]).without, 0)


class RenamedTest(Case):
    def test_other_names(self):
        book = Book(["a", "b", "c"], [B_C, C_C])
        wanted = Book(["bob", "x", "y"], [Rule("bob", Earliest.of(x=2, y=0)), Rule("x", Term("x", -1))])
        for names in ({"a": "y", "b": "bob", "c": "x"}, {"c": "x", "b": "bob", "a": "y"}):
            self.same(book.renamed(names), wanted)
            self.same(book.renamed(names=names), wanted)
            self.assertEqual(names, {"a": "y", "b": "bob", "c": "x"})
        self.same(book, Book(["a", "b", "c"], [B_C, C_C]))

    def test_exchanged_names(self):
        book = Book(["a", "b", "c"], [A_B, B_C])
        self.same(book.renamed({"a": "b", "b": "a", "c": "c"}),
                  Book(["a", "b", "c"], [Rule("b", Term("a")), Rule("a", Earliest.of(c=2, b=0))]))
        self.same(book.renamed({"a": "b", "b": "c", "c": "a"}).renamed({"b": "a", "c": "b", "a": "c"}), book)
        self.same(book.renamed({"a": "a", "b": "b", "c": "c"}), book)

    def test_no_names(self):
        book = Book(["a", "b"], [A_B])
        rows = [
            {}, {"a": "x"}, {"b": "x"}, {"a": "x", "b": "x"}, {"a": "b", "b": "b"}, {"a": "x", "b": "y", "c": "z"},
            {"a": "x", "c": "y"}, {"a": "x", 1: "y"}, {"a": "x", None: "y"}, {"a": "x", "b": "y", None: "z"},
            {"a": "x", "b": "y", "c": "x"}, {"a": "x", "b": "y", "c": []}, {"a": "x", "b": "y", "c": None},
            {"a": [], "b": []},
            [("a", "x"), ("b", "y")], ["x", "y"], ("x", "y"), "ab", 5, None, True, False, {"a", "b"}, object(), book,
        ]
        for value in rows:
            with self.subTest(value=value):
                self.fails(InvalidNames, {"value": value}, book.renamed, value)
                self.fails(InvalidNames, {"value": value}, book.renamed, names=value)
        for value in NO_NAMES:
            with self.subTest(name=value):
                self.fails(InvalidNames, {"value": {"a": value, "b": "y"}}, book.renamed, {"a": value, "b": "y"})
                self.fails(InvalidNames, {"value": {"a": "x", "b": value}}, book.renamed, {"a": "x", "b": value})


class LikenessTest(Case):
    def test_equal_books(self):
        self.assertIs(abc() == Book(("b", "c", "a"), (A_B, B_C, A_B)), True)
        self.assertIs(abc() != Book(("b", "c", "a"), (A_B, B_C, A_B)), False)
        self.assertIs(Book(["a"]) == Book(["a"], []), True)

    def test_unlike_books(self):
        for other in (Book(["a", "b", "c"], [B_C, A_B, A_B]), Book(["a", "b", "c"], [A_B, B_C]), Book(["a", "b", "c"]),
                      Book(["a", "b", "c", "d"], [A_B, B_C, A_B]), Book(["a", "b", "c"], [A_B, B_C, A_B + 1])):
            self.assertIs(abc() == other, False)
            self.assertIs(abc() != other, True)

    def test_values_of_other_kinds(self):
        for value in [*NO_INTEGERS, ["a"], A_B, repr(Book(["b"])), ("b",), (("b",), [])]:
            self.assertIs(Book(["b"]) == value, False)
            self.assertIs(value == Book(["b"]), False)

    def test_reprs(self):
        rows = [
            (Book(["bus", "ann"], [Rule("ann", Term("bus", 5))]),
             "Book(['ann', 'bus'], [Rule('ann', Earliest({'bus': 5}))])"),
            (Book(("b", "a"), (A_B, A_B - 1)),
             "Book(['a', 'b'], [Rule('a', Earliest({'b': 0})), Rule('a', Earliest({'b': -1}))])"),
            (Book(["a"]), "Book(['a'], [])"),
        ]
        for book, text in rows:
            self.same(repr(book), text)
            self.assertEqual(eval(text), book)


class RunTest(Case):
    def book(self):
        return Book(["a", "b", "c"], [A_B, Rule("b", Term("c", 2) | Term("a", 1)), C_C])

    def kept(self, times):
        """The positions of the rules that are kept, said in plain numbers."""
        a, b, c = times["a"], times["b"], times["c"]
        return [position for position, is_kept in enumerate([a >= b, b >= min(c + 2, a + 1), c >= c - 1]) if is_kept]

    def test_the_first_broken_rule_and_runs(self):
        for row in itertools.product(range(-2, 4), repeat=3):
            times = dict(zip("bca", row))
            broken = [position for position in range(3) if position not in self.kept(times)]
            wanted = broken[0] if broken else None
            self.same(first_broken(self.book(), times), wanted)
            self.same(first_broken(times={"d": LOW, **times}, book=self.book()), wanted)
            self.assertIs(is_run(self.book(), times), wanted is None)
            self.assertIs(is_run(value=times, book=self.book()), wanted is None)
            self.assertIs(is_run(self.book(), {"d": LOW, **times}), False)

    def test_without_rules_all_times_are_runs(self):
        book = Book(["a", "b"])
        self.same(first_broken(book, {"a": BIG, "b": LOW}), None)
        self.assertIs(is_run(book, {"b": LOW, "a": BIG}), True)

    def test_no_times(self):
        for value in NO_TIMES:
            with self.subTest(value=value):
                self.fails(InvalidTimes, {"value": value}, first_broken, Book(["a"]), value)
                self.fails(InvalidTimes, {"value": value}, first_broken, times=value, book=Book(["a"], []))

    def test_times_without_some_moment(self):
        for value in ({"a": 1, "b": 1}, {"b": 1, "c": 1}, {"a": 1, "c": 1, "d": 1}):
            self.fails(InvalidTimes, {"value": value}, first_broken, self.book(), value)
            self.fails(InvalidTimes, {"value": value}, first_broken, Book(["a", "b", "c"]), value)
            self.assertIs(is_run(Book(["a", "b", "c"]), value), False)

    def test_a_broken_rule_does_not_hide_a_moment_without_a_time(self):
        book = Book(["a", "b", "c"], [A_B])
        self.fails(InvalidTimes, {"value": {"a": 0, "b": 5}}, first_broken, book, {"a": 0, "b": 5})
        self.same(first_broken(book, {"a": 0, "b": 5, "c": 0}), 0)

    def test_any_value_is_a_run_or_not(self):
        for value in [*NO_TIMES, {"b": 1}, {"a": 1, "b": 1}, Run.of(a=1), [("a", 1)], "a", 5, BIG]:
            with self.subTest(value=value):
                self.assertIs(is_run(Book(["a"]), value), False)
        self.assertIs(is_run(Book(["a"]), {"a": 1}), True)
        self.assertIs(is_run(Book(["a"], [Rule("a", Term("a", 1))]), {"a": 1}), False)

    def test_a_shifted_run_is_a_run(self):
        for number in (1, -7, BIG, LOW):
            self.assertIs(is_run(self.book(), (Run.of(a=3, b=2, c=0) + number).times()), True)
            self.assertIs(is_run(self.book(), (Run.of(a=1, b=2, c=0) + number).times()), False)

    def test_the_earlier_one_of_two_runs_is_a_run(self):
        rows = [dict(zip("abc", row)) for row in itertools.product(range(-2, 4), repeat=3)]
        runs = [Run(times) for times in rows if is_run(self.book(), times)]
        self.assertGreater(len(runs), 10)
        for one, other in itertools.product(runs, repeat=2):
            self.assertIs(is_run(self.book(), (one & other).times()), True)

    def test_the_later_one_of_two_runs_need_not_be_a_run(self):
        book = Book(["a", "b", "c"], [Rule("a", Term("b") | Term("c"))])
        one, other = Run.of(a=0, b=0, c=9), Run.of(a=0, b=9, c=0)
        self.same([is_run(book, run.times()) for run in (one, other, one | other)], [True, True, False])

    def test_great_numbers(self):
        book = Book(["a", "b"], [Rule("a", Term("b", BIG)), Rule("b", Term("a", -BIG))])
        self.assertIs(is_run(book, {"a": 0, "b": -BIG}), True)
        self.same(first_broken(book, {"a": 0, "b": -BIG + 1}), 0)
        self.same(first_broken(book, {"a": 1, "b": -BIG}), 1)


class AgainTest(Case):
    def test_repeated_calls_answer_the_same_and_change_nothing(self):
        book = abc()
        names = {"a": "x", "b": "y", "c": "z"}
        times = {"a": 0, "b": 0, "c": 0}
        calls = [
            book.rules, lambda: book.moments, lambda: book[1], lambda: book & book, lambda: book.with_rules(C_C),
            lambda: book.without(1), lambda: book.renamed(names), lambda: book.rules_of("a"), lambda: repr(book),
            lambda: first_broken(book, times), lambda: is_run(book, times),
        ]
        for call in calls:
            self.same(call(), call())
        self.same([book, names, times], [abc(), {"a": "x", "b": "y", "c": "z"}, {"a": 0, "b": 0, "c": 0}])

    def test_behind_refused_calls_good_ones_answer(self):
        book = abc()
        self.fails(InvalidPositions, {"position": 0}, book.without, True)
        self.fails(InvalidNames, {"value": {}}, book.renamed, {})
        self.fails(UnknownMoment, {"value": "d"}, book.with_rules, Rule("d", Term("a")))
        self.fails(UnknownMoment, {"value": "d"}, book.rules_of, "d")
        self.same(book, abc())
        self.same([book.without(1).rules(), book.rules_of("b")], [[A_B, A_B], [1]])
