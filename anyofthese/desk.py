"""Desks: a book that is worked on by commands ([93])."""

from anyofthese.checks import check_same_moments
from anyofthese.commands import performed
from anyofthese.errors import CommandFailed, InvalidCommand, LastOne, NothingToUndo, TooMany


class Held:
    """The Books of a desk when a trial began, and those of the trials of the same object around it."""

    def __init__(self, books, around):
        self.books = books
        self.around = around


class Trial:
    """A context manager at whose end its desk is as it was at the beginning."""

    def __init__(self, desk):
        self._desk = desk
        self._held = None

    def __enter__(self):
        self._held = Held(self._desk.books, self._held)
        return self._desk

    def __exit__(self, *told):
        self._desk.books = self._held.books
        self._held = self._held.around


class Desk:
    """A book, commands about it, and the changes that can be taken back.

    Its books are a tuple: the Book ahead of each of these changes, and at the end the Book as it is."""

    def __init__(self, book):
        self.books = (book,)

    def do(self, command):
        """The answer to the command."""
        self.books, answer = performed(self.books, command)
        return answer

    def do_all(self, *commands):
        """The list of the answers; if one command fails, none has an effect."""
        held = self.books
        answers = []
        for position, command in enumerate(commands):
            try:
                answers.append(self.do(command))
            except (InvalidCommand, LastOne, NothingToUndo, TooMany) as e:
                self.books = held
                raise CommandFailed(position) from e
        return answers

    def attempt(self, *commands):
        """The same list, without any effect."""
        with self.trial():
            return self.do_all(*commands)

    def tried_by(self, deed):
        """What the function deed returns for the Desk, which then is as it was."""
        with self.trial():
            return deed(self)

    def trial(self):
        """A context manager that gives the Desk, and at whose end it is as it was."""
        return Trial(self)

    @property
    def book(self):
        """The Book as it is."""
        return self.books[-1]

    @book.setter
    def book(self, value):
        check_same_moments(self.book.moments, value.moments)
        self.books = (*self.books, value)

    def take(self, other):
        """The other Book, which has the same moments, stands there from now on."""
        self.book = other

    @property
    def undoable(self):
        """How many changes can be taken back."""
        return len(self.books) - 1
