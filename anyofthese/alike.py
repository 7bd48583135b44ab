"""Which books say the same, and which rules and alternatives are needed ([62] to [64])."""

from anyofthese.books import Book
from anyofthese.checks import check_position, check_same_moments
from anyofthese.earliest import Earliest
from anyofthese.errors import NoRun
from anyofthese.follows import against, follows
from anyofthese.refusals import has_run, refusal_of
from anyofthese.rules import Rule


def run_apart(one, other):
    """A run of the one book that is no run of the other one; None if there is none."""
    for rule in other.rules():
        run = against(one, rule)
        if run is not None:
            return run
    return None


def is_below(one, other):
    """Whether each run of the one book is a run of the other one."""
    check_same_moments(one.moments, other.moments)
    return run_apart(one, other) is None


def are_alike(one, other):
    """Whether both books have the same runs."""
    return parting(one, other) is None


def parting(one, other):
    """The tuple of 0 or 1, for one or other, and a run of this book that is none of the other; None if alike."""
    check_same_moments(one.moments, other.moments)
    run = run_apart(one, other)
    if run is not None:
        return 0, run
    run = run_apart(other, one)
    return None if run is None else (1, run)


def needless(book):
    """The list of the positions of the rules that follow from the book without them."""
    return [position for position in range(len(book)) if follows(book.without(position), book[position])]


def lean_rule(book, rule):
    """The rule without the alternatives that can be left out, the last ones first."""
    left = rule
    for alternative in sorted(rule.earliest.moments, reverse=True):
        if len(left.earliest) > 1:
            shorter = Rule(rule.moment, left.earliest.without(alternative))
            if follows(book, shorter):
                left = shorter
    return left


def lean(book):
    """The book without the alternatives, and behind that without the rules, that are not needed [63]."""
    if not has_run(book):
        raise NoRun()
    left = Book(book.moments, [lean_rule(book, rule) for rule in book.rules()])
    for position in reversed(range(len(book))):
        others = left.without(position)
        if follows(others, left[position]):
            left = others
    return left


def way_of(book, rule):
    """How sure the only alternative of this rule is in the book [64]."""
    if follows(book, rule):
        return "sure"
    return "possible" if refusal_of(book.moments, [*book.rules(), rule]) is None else "impossible"


def ways_of(book, position):
    """The dict from the alternatives of the rule to how sure they are."""
    check_position(position, len(book))
    if not has_run(book):
        raise NoRun()
    rule = book[position]
    shifts = rule.earliest.shifts()
    return {moment: way_of(book, Rule(rule.moment, Earliest({moment: shifts[moment]}))) for moment in shifts}
