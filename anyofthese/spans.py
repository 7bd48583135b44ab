"""How far apart two moments can be ([65])."""

from anyofthese.books import is_run
from anyofthese.checks import check_moment, check_shift
from anyofthese.errors import NoRun
from anyofthese.kept import is_kept_by
from anyofthese.kinds import is_moment_of
from anyofthese.rising import rows_of, settled_in_part
from anyofthese.runs import Run


def check_pair(book, a, b):
    """UnknownMoment unless both are moments of the book."""
    check_moment(a, book.moments)
    check_moment(b, book.moments)


def held_behind(rows, b, moments):
    """The least times if b alone has a floor, at 0, and the list of the moments that b does not hold."""
    times, loose = settled_in_part(rows, {b: 0}, moments)
    if len(times) < len(moments):
        raise NoRun()
    return times, loose


def low_ends(rows, b, moments):
    """The dict from all moments to the least difference, their time less that of b; None if there is none."""
    times, loose = held_behind(rows, b, moments)
    return {moment: None if moment in loose else times[moment] for moment in moments}


def both_ends(low, opposite):
    """The span, by its low end and by that of the opposite differences."""
    return (low, None) if opposite is None else (low, -opposite)


def span_in_rows(rows, a, b, moments):
    """The span of a and b if these rows are the rules."""
    return both_ends(low_ends(rows, b, moments)[a], low_ends(rows, a, moments)[b])


def span(book, a, b):
    """The tuple of the least and the greatest difference, the time of a less that of b; None where there is no end."""
    check_pair(book, a, b)
    return span_in_rows(rows_of(book.rules()), a, b, book.moments)


def spans(book):
    """The dict from the tuples of two moments, the first one ahead, to their spans."""
    rows = rows_of(book.rules())
    lows = {moment: low_ends(rows, moment, book.moments) for moment in book.moments}
    return {(a, b): both_ends(lows[b][a], lows[a][b]) for a in book.moments for b in book.moments if a < b}


def run_with(book, a, b, gap):
    """A run in which the time of a less that of b is the gap; None if there is none.

    If there is one, then in the least run with floors of 0 and the gap both have their floors."""
    check_pair(book, a, b)
    check_shift(gap)
    times, _ = settled_in_part(rows_of(book.rules()), {b: 0, a: gap}, book.moments)
    if len(times) < len(book.moments) or times[a] - times[b] != gap:
        return None
    return Run(times)


def loose_end(book, a, b):
    """A loose end of a and b; None if the difference has a low end."""
    check_pair(book, a, b)
    times, loose = held_behind(rows_of(book.rules()), b, book.moments)
    return (Run(times), tuple(loose)) if a in loose else None


def is_part(book, value):
    """Whether the value is a sorted tuple of different moments of the book."""
    if not isinstance(value, tuple) or not all([is_moment_of(moment, book.moments) for moment in value]):
        return False
    return list(value) == sorted(set(list(value)))


def is_loose(book, run, moments):
    """Whether each rule with its left among the moments is kept, in the run, by an alternative among them."""
    rules = [rule for rule in book.rules() if rule.moment in moments]
    return all([any([is_kept_by(rule, by, run) for by in rule.earliest.moments if by in moments]) for rule in rules])


def is_loose_end(book, a, b, value):
    """Whether the value is a loose end of a and b."""
    check_pair(book, a, b)
    if not isinstance(value, tuple) or len(value) != 2:
        return False
    run, moments = value
    if not isinstance(run, Run) or not is_run(book, run.times()) or not is_part(book, moments):
        return False
    return a in moments and b not in moments and is_loose(book, run, moments)
