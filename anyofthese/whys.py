"""What shows that a run is the least one for floors ([42])."""

from anyofthese.books import is_run
from anyofthese.checks import check_same_moments
from anyofthese.kinds import is_list, is_moment_of, is_position
from anyofthese.rising import holds_in_sequence, rows_of, settled


def why(book, floors):
    """A why for the floors and the least run; None if the book has no run."""
    check_same_moments(book.moments, floors.moments)
    rows = rows_of(book.rules())
    times, holds = settled(rows, floors.times())
    return holds_in_sequence(rows, times, holds) if len(times) == len(floors) else None


def is_held_by(rule, run, earlier):
    """Whether each alternative is later than the time of the left, or just then and one of the earlier moments."""
    values = {moment: run[moment] + rule.earliest[moment] for moment in rule.earliest.moments}
    time = run[rule.moment]
    return all([values[moment] > time or values[moment] == time and moment in earlier for moment in values])


def is_entry(book, floors, run, value, earlier):
    """Whether the value is a tuple (moment, position) that can stand in a why behind these earlier moments."""
    if not isinstance(value, tuple) or len(value) != 2:
        return False
    moment, position = value
    if not is_moment_of(moment, book.moments) or moment in earlier:
        return False
    if position is None:
        return run[moment] == floors[moment]
    if not is_position(position, len(book)) or book[position].moment != moment:
        return False
    return is_held_by(book[position], run, earlier)


def is_why(book, floors, run, value):
    """Whether this is a run of the book, not ahead of the floors, and the value a why for it."""
    check_same_moments(book.moments, floors.moments)
    check_same_moments(book.moments, run.moments)
    if not is_run(book, run.times()) or not floors.is_at_most(run):
        return False
    if not is_list(value) or len(value) != len(book.moments):
        return False
    earlier = {}
    for entry in value:
        if not is_entry(book, floors, run, entry, earlier):
            return False
        earlier[entry[0]] = True
    return True
