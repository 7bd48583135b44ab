"""How times keep the rules of a book, choices of alternatives, and all runs in a box ([31] to [33])."""

from anyofthese.books import Book, is_run
from anyofthese.checks import check_count, check_same_moments
from anyofthese.earliest import Earliest
from anyofthese.errors import InvalidChoice, TooMany
from anyofthese.kinds import is_list
from anyofthese.rising import are_kept, rows_of
from anyofthese.rules import Rule
from anyofthese.runs import Run

MOST_TIMES = 20000


def is_kept_by(rule, alternative, run):
    """Whether the times keep the rule by this alternative [32]."""
    return run[rule.moment] >= run[alternative] + rule.earliest[alternative]


def keeps(book, run):
    """Whether the Run is a run of the book."""
    check_same_moments(book.moments, run.moments)
    return is_run(book, run.times())


def slacks(book, run):
    """The list of the slacks of all rules [32]."""
    check_same_moments(book.moments, run.moments)
    return [rule.slack(run.times()) for rule in book.rules()]


def ways(book, run):
    """The list, for each rule, of the sorted list of the alternatives by which the times keep it."""
    check_same_moments(book.moments, run.moments)
    return [[moment for moment in rule.earliest.moments if is_kept_by(rule, moment, run)] for rule in book.rules()]


def check_choice(book, choice):
    """InvalidChoice unless the choice is a list with an alternative for each rule, in sequence [33]."""
    if not is_list(choice) or len(choice) != len(book):
        raise InvalidChoice(None)
    for position, alternative in enumerate(choice):
        if alternative not in book[position].earliest:
            raise InvalidChoice(position)


def keeps_choice(book, run, choice):
    """Whether each rule is kept by the alternative of the choice."""
    check_same_moments(book.moments, run.moments)
    check_choice(book, choice)
    return all([is_kept_by(rule, alternative, run) for rule, alternative in zip(book.rules(), choice)])


def plain(book, choice):
    """The book in which each rule has the alternative of the choice alone [33]."""
    check_choice(book, choice)
    terms = [Earliest({moment: rule.earliest[moment]}) for rule, moment in zip(book.rules(), choice)]
    return Book(book.moments, [Rule(rule.moment, term) for rule, term in zip(book.rules(), terms)])


def times_ahead(floors, most, number):
    """The times with this number among all that are at most most later than the floors, sorted."""
    ahead = number
    times = {}
    for moment in sorted(floors.moments, reverse=True):
        ahead, delay = divmod(ahead, most + 1)
        times[moment] = floors[moment] + delay
    return times


def runs_within(book, floors, most):
    """Yields all runs that are not ahead of the floors and at most most later, sorted by the lists of their times."""
    check_same_moments(book.moments, floors.moments)
    check_count(most)
    many = 1
    for _ in book.moments:
        many = many * (most + 1)
    if many > MOST_TIMES:
        raise TooMany("times", MOST_TIMES)
    rows = rows_of(book.rules())
    for number in range(many):
        times = times_ahead(floors, most, number)
        if are_kept(rows, times):
            yield Run(times)
