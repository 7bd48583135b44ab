"""Floors and ceilings: whether runs are within both, and what room each moment has ([72], [73])."""

from anyofthese.books import Book
from anyofthese.checks import check_ceilings, check_moment, check_same_moments, check_shift
from anyofthese.earliest import Earliest
from anyofthese.errors import InvalidName, NameTaken
from anyofthese.kinds import is_name
from anyofthese.least import least_run
from anyofthese.rising import rows_of
from anyofthese.rules import Rule
from anyofthese.spans import span_in_rows

# Stands for zero among rows of rules. It is no NAME, so no book has it.
ZERO = ""


def check_both(book, floors, ceilings):
    """OtherMoments or InvalidCeilings unless these are floors and ceilings of the book."""
    check_same_moments(book.moments, floors.moments)
    check_ceilings(ceilings, book.moments)


def least_within(book, floors, ceilings):
    """The least run within floors and ceilings; None if there is none."""
    least = least_run(book, floors)
    if least is None or any([least[moment] > ceilings[moment] for moment in ceilings]):
        return None
    return least


def fits(book, floors, ceilings):
    """Whether a run is within floors and ceilings."""
    check_both(book, floors, ceilings)
    return least_within(book, floors, ceilings) is not None


def anchors(zero, floors, ceilings):
    """The rows that hold all moments within floors and ceilings if zero has the time 0."""
    low = [(moment, {zero: floors[moment]}) for moment in floors.moments]
    return low + [(zero, {moment: -ceilings[moment]}) for moment in sorted(ceilings)]


def window(book, floors, ceilings, moment):
    """The tuple of the least and the greatest time of the moment in runs within both; None for no greatest one."""
    check_both(book, floors, ceilings)
    check_moment(moment, book.moments)
    rows = rows_of(book.rules()) + anchors(ZERO, floors, ceilings)
    return span_in_rows(rows, moment, ZERO, [*book.moments, ZERO])


def run_at(book, floors, ceilings, moment, time):
    """A run within both in which the moment has this time; None if there is none.

    If there is one, then it is not ahead of the least run in which the moment has the time as its floor."""
    check_both(book, floors, ceilings)
    check_moment(moment, book.moments)
    check_shift(time)
    if time < floors[moment]:
        return None
    least = least_within(book, floors.with_time(moment, time), ceilings)
    return least if least is not None and least[moment] == time else None


def anchored(book, zero, floors, ceilings):
    """The Book in which the new moment zero holds all others within both."""
    if not is_name(zero):
        raise InvalidName(zero)
    check_both(book, floors, ceilings)
    if zero in book.moments:
        raise NameTaken(zero)
    rules = [Rule(left, Earliest(shifts)) for left, shifts in anchors(zero, floors, ceilings)]
    return Book([*book.moments, zero], [*book.rules(), *rules])
