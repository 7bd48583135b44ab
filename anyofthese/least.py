"""Least runs for floors, and lifting ([41], [43])."""

from anyofthese.checks import check_count, check_moment, check_same_moments
from anyofthese.errors import NoRun
from anyofthese.rising import rows_of, settled
from anyofthese.runs import Run


def least_of_rules(rules, floors):
    """The least run of a book with these rules, however many; None if it has no run."""
    times, _ = settled(rows_of(rules), floors.times())
    return Run(times) if len(times) == len(floors) else None


def least_run(book, floors):
    """The least run that is not ahead of the floors; None if the book has no run."""
    check_same_moments(book.moments, floors.moments)
    return least_of_rules(book.rules(), floors)


def lifted(book, run):
    """The times, lifted once: each moment gets the greatest of its time and the values of its rules, as they were."""
    check_same_moments(book.moments, run.moments)
    before = run.times()
    times = run.times()
    for rule in book.rules():
        earliest = rule.earliest
        times[rule.moment] = max(times[rule.moment], earliest(before))
    return Run(times)


def at_floors(book, floors):
    """The sorted list of the moments that have their floor in the least run."""
    least = least_run(book, floors)
    if least is None:
        raise NoRun()
    return [moment for moment in book.moments if least[moment] == floors[moment]]


def spread(book, floors, moment, delay):
    """The dict from all moments to how much later each is if the floor of this one is greater by the delay."""
    check_same_moments(book.moments, floors.moments)
    check_moment(moment, book.moments)
    check_count(delay)
    before = least_run(book, floors)
    if before is None:
        raise NoRun()
    behind = least_run(book, floors.with_time(moment, floors[moment] + delay))
    return {other: behind[other] - before[other] for other in book.moments}
