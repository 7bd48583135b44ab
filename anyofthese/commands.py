"""The commands of a desk ([93]): what they change in a Book, or answer about it.

Each function gets a Book and the words behind that of the command, and gives None if they cannot stand there."""

from anyofthese.alike import needless
from anyofthese.earliest import Earliest
from anyofthese.errors import InvalidCommand, NothingToUndo
from anyofthese.follows import follows
from anyofthese.forget import forget
from anyofthese.kinds import are_among, is_position
from anyofthese.least import least_run
from anyofthese.refusals import has_run
from anyofthese.rules import Rule
from anyofthese.runs import Run
from anyofthese.spans import span
from anyofthese.wording import read_count, read_integer, read_shifts


def read_rule(book, words):
    """The Rule of a moment and terms of the book; None for other words."""
    if len(words) < 2 or words[0] not in book.moments:
        return None
    shifts = read_shifts(words[1:])
    return Rule(words[0], Earliest(shifts)) if shifts is not None and are_among(shifts, book.moments) else None


def read_floors(book, words):
    """The Run with a time of each moment of the book, sorted; None for other words."""
    parts = [word.partition("=") for word in words]
    times = {moment: read_integer(number) for moment, sign, number in parts if sign}
    if len(times) != len(words) or tuple(times) != book.moments or None in list(times.values()):
        return None
    return Run(times)


def are_moments(book, words, many):
    """Whether these are so many moments of the book."""
    return len(words) == many and are_among(words, book.moments)


def yes_or_no(truth):
    """The answer to whether something is so."""
    return "yes" if truth else "no"


def with_rule(book, words):
    """The Book with this rule behind all others."""
    rule = read_rule(book, words)
    return None if rule is None else book.with_rules(rule)


def without_rule(book, words):
    """The Book without the rule at this position."""
    position = read_count(words[0]) if len(words) == 1 else None
    return book.without(position) if is_position(position, len(book)) else None


def without_moment(book, words):
    """The Book in which this moment is forgotten."""
    return forget(book, words[0]) if are_moments(book, words, 1) else None


def told_runs(book, words):
    """Whether the book has a run."""
    return None if words else yes_or_no(has_run(book))


def told_least(book, words):
    """The least run for these floors."""
    floors = read_floors(book, words)
    if floors is None:
        return None
    run = least_run(book, floors)
    return "none" if run is None else " ".join([f"{moment}={run[moment]}" for moment in run.moments])


def told_follows(book, words):
    """Whether this rule follows."""
    rule = read_rule(book, words)
    return None if rule is None else yes_or_no(follows(book, rule))


def told_span(book, words):
    """Both ends of the span of these moments."""
    if not are_moments(book, words, 2):
        return None
    if not has_run(book):
        return "none"
    return " ".join(["-" if end is None else str(end) for end in span(book, words[0], words[1])])


def told_needless(book, words):
    """The positions of the needless rules."""
    return None if words else " ".join([str(position) for position in needless(book)]) or "-"


def told_book(book, words):
    """The lines of the rules."""
    return None if words else " ; ".join([str(rule) for rule in book.rules()]) or "-"


CHANGES = {"rule": with_rule, "drop": without_rule, "forget": without_moment}
QUESTIONS = {
    "runs": told_runs,
    "least": told_least,
    "follows": told_follows,
    "span": told_span,
    "needless": told_needless,
    "book": told_book,
}


def performed(books, command):
    """The tuple of the Books behind the command, and the answer.

    The last one is the Book as it is; the others are what it was ahead of each change that can be taken back."""
    if not isinstance(command, str):
        raise InvalidCommand(command)
    word, *words = command.split(" ")
    if word in CHANGES:
        change = CHANGES[word]
        book = change(books[-1], words)
        if book is not None:
            return (*books, book), "done"
    elif word in QUESTIONS:
        question = QUESTIONS[word]
        answer = question(books[-1], words)
        if answer is not None:
            return books, answer
    elif command == "undo":
        if len(books) == 1:
            raise NothingToUndo()
        return books[:-1], "done"
    raise InvalidCommand(command)
