"""Which rules follow from a book, how strongly, and what shows it ([61], [66])."""

from anyofthese.checks import check_rule
from anyofthese.errors import NoRun
from anyofthese.least import least_of_rules
from anyofthese.refusals import is_refusal_of, refusal_of
from anyofthese.rising import rows_of, settled_in_part
from anyofthese.runs import Run


def with_contrary(book, rule):
    """The rules of the book and, behind them, those of the contrary of the rule."""
    check_rule(rule, book.moments)
    return [*book.rules(), *rule.contrary()]


def follows(book, rule):
    """Whether each run of the book keeps the rule."""
    return against(book, rule) is None


def reason(book, rule):
    """A reason for the rule; None if it does not follow."""
    return refusal_of(book.moments, with_contrary(book, rule))


def is_reason(book, rule, value):
    """Whether the value is a reason for the rule."""
    return is_refusal_of(book.moments, with_contrary(book, rule), value)


def against(book, rule):
    """A run of the book that does not keep the rule; None if it follows."""
    return least_of_rules(with_contrary(book, rule), Run({moment: 0 for moment in book.moments}))


def strength(book, rule):
    """The greatest number by which the rule can be raised so that it follows; None if there is none.

    That is the least slack. So the terms are held at 0 or later, and it is seen how late the left then is at least."""
    check_rule(rule, book.moments)
    shifts = rule.earliest.shifts()
    floors = {moment: -shifts[moment] for moment in shifts}
    times, loose = settled_in_part(rows_of(book.rules()), floors, book.moments)
    if len(times) < len(book.moments):
        raise NoRun()
    return None if rule.moment in loose else times[rule.moment]
