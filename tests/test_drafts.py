"""Drafts ([25]): books that can be changed."""

from anyofthese.books import Book
from anyofthese.drafts import Draft
from anyofthese.errors import InvalidPosition, OtherMoments, TooMany, UnknownMoment
from anyofthese.rules import Rule
from anyofthese.terms import Term
from tests.samples import BIG, LOW, NO_INTEGERS, Case

ONE = Rule("a", Term("b"))
TWO = Rule("b", Term("a", BIG) | Term("b"))
THREE = Rule("b", Term("b", LOW))
UNKNOWN = [
    (Rule("x", Term("y") | Term("a")), "x"), (Rule("a", Term("z") | Term("y") | Term("b")), "y"),
    (Rule("c", Term("a")), "c"), (Rule("b", Term("c")), "c"),
]
HUNDRED = [Rule("a", Term("b", number)) for number in range(100)]
TOO_MANY_RULES = {"what": "rules", "limit": 100}


def two_rules():
    return Book(["b", "a"], [ONE, TWO])


def change(draft, position, rule):
    draft[position] = rule


def add_in_place(draft, rule):
    draft += rule
    return draft


def set_book(draft, book):
    draft.book = book


class TellingTest(Case):
    def test_it_begins_as_the_book(self):
        for draft in (Draft(two_rules()), Draft(book=two_rules())):
            self.same(draft.book, two_rules())
            self.same([draft[0], draft[1], len(draft)], [ONE, TWO, 2])
        self.same(len(Draft(Book(["a"]))), 0)

    def test_no_positions(self):
        draft = Draft(two_rules())
        for value in [*NO_INTEGERS, -1, 2, 3, BIG, LOW, slice(0, 1)]:
            with self.subTest(value=value):
                told = {"value": value}
                self.fails(InvalidPosition, told, lambda at: draft[at], value)
                self.fails(InvalidPosition, told, lambda at: change(draft, at, THREE), value)
                self.fails(InvalidPosition, told, draft.put, value, THREE)
                self.fails(InvalidPosition, told, draft.put, rule=THREE, position=value)
                self.fails(InvalidPosition, told, draft.drop, value)
                self.fails(InvalidPosition, told, draft.drop, position=value)
        self.same(draft.book, two_rules())

    def test_it_is_not_iterated_over(self):
        self.not_iterated(Draft(two_rules()))
        self.not_iterated(Draft(Book(["a"])))


class ChangeTest(Case):
    def test_a_rule_that_is_set(self):
        draft = Draft(two_rules())
        draft[1] = THREE
        self.same(draft.book, Book(["a", "b"], [ONE, THREE]))
        draft[0] = THREE
        self.same(draft.book, Book(["a", "b"], [THREE, THREE]))
        self.same([draft[0], len(draft)], [THREE, 2])

    def test_put_returns_the_draft(self):
        draft = Draft(two_rules())
        self.assertIs(draft.put(0, THREE), draft)
        self.assertIs(draft.put(rule=ONE, position=1), draft)
        self.same(draft.book, Book(["a", "b"], [THREE, ONE]))

    def test_a_rule_behind_all_others(self):
        draft = same = Draft(two_rules())
        draft += THREE
        self.assertIs(draft, same)
        self.same(draft.book, Book(["a", "b"], [ONE, TWO, THREE]))
        self.same([draft[2], len(draft)], [THREE, 3])

    def test_add_returns_the_draft(self):
        draft = Draft(two_rules())
        self.assertIs(draft.add(THREE), draft)
        self.assertIs(draft.add(rule=ONE).add(TWO), draft)
        self.same(draft.book, Book(["a", "b"], [ONE, TWO, THREE, ONE, TWO]))

    def test_drop_returns_none(self):
        draft = Draft(two_rules().with_rules(THREE))
        self.assertIsNone(draft.drop(1))
        self.same(draft.book, Book(["a", "b"], [ONE, THREE]))
        self.assertIsNone(draft.drop(position=0))
        self.same(draft.book, Book(["a", "b"], [THREE]))
        self.assertIsNone(draft.drop(0))
        self.same(draft.book, Book(["a", "b"]))
        self.fails(InvalidPosition, {"value": 0}, draft.drop, 0)

    def test_another_book(self):
        for use in (set_book, Draft.take, lambda draft, book: draft.take(other=book)):
            draft = Draft(two_rules())
            self.assertIsNone(use(draft, Book(["a", "b"], [THREE])))
            self.same(draft.book, Book(["a", "b"], [THREE]))
            use(draft, draft.book)
            self.same(draft.book, Book(["a", "b"], [THREE]))
            use(draft, Book(["b", "a"]))
            self.same([draft.book, len(draft)], [Book(["a", "b"]), 0])


class RefusedTest(Case):
    def test_unknown_moments(self):
        for rule, name in UNKNOWN:
            draft = Draft(two_rules())
            told = {"value": name}
            self.fails(UnknownMoment, told, change, draft, 1, rule)
            self.fails(UnknownMoment, told, draft.put, 0, rule)
            self.fails(UnknownMoment, told, add_in_place, draft, rule)
            self.fails(UnknownMoment, told, draft.add, rule)
            self.same(draft.book, two_rules())
            draft += THREE
            draft[0] = THREE
            self.same(draft.book, Book(["a", "b"], [THREE, TWO, THREE]))

    def test_the_position_comes_ahead_of_the_moments(self):
        draft = Draft(two_rules())
        self.fails(InvalidPosition, {"value": 2}, change, draft, 2, UNKNOWN[0][0])
        self.fails(InvalidPosition, {"value": True}, draft.put, True, UNKNOWN[0][0])
        self.same(draft.book, two_rules())

    def test_too_many_rules(self):
        draft = Draft(Book(["a", "b"], HUNDRED[:99]))
        draft += HUNDRED[99]
        self.same(len(draft), 100)
        self.fails(TooMany, TOO_MANY_RULES, add_in_place, draft, THREE)
        self.fails(TooMany, TOO_MANY_RULES, draft.add, THREE)
        self.fails(UnknownMoment, {"value": "x"}, draft.add, UNKNOWN[0][0])
        self.same(draft.book, Book(["a", "b"], HUNDRED))
        draft[99] = THREE
        draft.drop(0)
        draft.add(THREE)
        self.same(draft.book, Book(["a", "b"], [*HUNDRED[1:99], THREE, THREE]))

    def test_other_moments(self):
        rows = [["a"], ["c", "b", "a"], ["a", "c"], ["b", "aa"]]
        for moments in rows:
            draft = Draft(two_rules())
            told = {"one": ("a", "b"), "other": tuple(sorted(moments))}
            self.fails(OtherMoments, told, set_book, draft, Book(moments))
            self.fails(OtherMoments, told, draft.take, Book(moments))
            self.fails(OtherMoments, told, draft.take, other=Book(moments))
            self.same(draft.book, two_rules())
            draft.take(Book(["a", "b"]))
            self.same(len(draft), 0)


class ApartTest(Case):
    def test_books_and_other_drafts_stay(self):
        book = two_rules()
        draft, twin = Draft(book), Draft(book)
        told = draft.book
        draft += THREE
        draft[0] = TWO
        draft.drop(1)
        self.same(draft.book, Book(["a", "b"], [TWO, THREE]))
        self.same([book, told, twin.book], [two_rules(), two_rules(), two_rules()])
        second = draft.book
        draft.take(Book(["a", "b"]))
        self.same(second, Book(["a", "b"], [TWO, THREE]))

    def test_a_book_that_was_taken_stays(self):
        other = Book(["a", "b"], [THREE])
        draft, twin = Draft(two_rules()), Draft(two_rules())
        draft.book = other
        twin.take(other)
        draft.put(0, ONE).add(TWO)
        self.same([other, twin.book, draft.book], [Book(["a", "b"], [THREE]), other, two_rules()])

    def test_a_draft_of_the_book_of_a_draft(self):
        draft = Draft(two_rules())
        twin = Draft(draft.book)
        twin.drop(0)
        self.same([draft.book, twin.book], [two_rules(), Book(["a", "b"], [TWO])])

    def test_rules_of_the_told_book_are_its_own(self):
        draft = Draft(two_rules())
        draft.book.rules().clear()
        self.same(draft.book, two_rules())

    def test_many_changes(self):
        draft = Draft(Book(["a", "b"], HUNDRED[:2]))
        for number in range(2, 100):
            draft += HUNDRED[number]
            draft[0] = THREE
            draft.drop(0)
        self.same(draft.book, Book(["a", "b"], HUNDRED[98:]))
