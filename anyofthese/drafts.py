"""Drafts: books that can be changed ([25])."""

from anyofthese.books import Book
from anyofthese.checks import check_position, check_rule, check_same_moments


class Draft:
    """A book that can be changed: it holds a Book, and each change puts another one in its place."""

    def __init__(self, book):
        self._book = book

    def __getitem__(self, at):
        return self._book[at]

    def __setitem__(self, at, worth):
        check_position(at, len(self._book))
        check_rule(worth, self._book.moments)
        rules = self._book.rules()
        rules[at] = worth
        self._book = Book(self._book.moments, rules)

    def __iadd__(self, other):
        self._book = self._book.with_rules(other)
        return self

    def put(self, position, rule):
        """This Rule stands at the position from now on."""
        self[position] = rule
        return self

    def add(self, rule):
        """This Rule stands behind all others from now on."""
        self._book = self._book.with_rules(rule)
        return self

    def drop(self, position):
        """The rule at the position is left out from now on."""
        check_position(position, len(self._book))
        self._book = self._book.without(position)

    @property
    def book(self):
        """The Book as it is."""
        return self._book

    @book.setter
    def book(self, value):
        check_same_moments(self._book.moments, value.moments)
        self._book = value

    def take(self, other):
        """The rules are those of the other Book, which has the same moments, from now on."""
        self.book = other

    def __len__(self):
        return len(self._book)

    def __iter__(self):
        raise TypeError("a Draft is not iterated over")
