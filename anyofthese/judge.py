"""Claims about books and plans, whether they are true, and what certifies it ([92])."""

from anyofthese.bars import ban, bar, is_ban, is_bar, is_licence, licence
from anyofthese.books import Book, is_run
from anyofthese.errors import InvalidClaim
from anyofthese.follows import against, is_reason, reason
from anyofthese.kinds import are_among, is_integer, is_moment_of, is_pace
from anyofthese.least import least_run
from anyofthese.paces import far_pace, is_timetable, timetable
from anyofthese.plans import Plan
from anyofthese.refusals import has_run, is_refusal, refusal
from anyofthese.rules import Rule
from anyofthese.runs import Run
from anyofthese.spans import is_loose_end, loose_end, run_with
from anyofthese.whys import is_why, why

# What stands behind each word in its claims.
PARTS = {
    "runs": ("book",),
    "stuck": ("book",),
    "follows": ("book", "rule"),
    "open": ("book", "rule"),
    "least": ("book", "run", "run"),
    "gap": ("book", "moment", "moment", "integer"),
    "loose": ("book", "moment", "moment"),
    "paced": ("plan", "pace"),
    "slowest": ("plan", "pace"),
    "banned": ("plan",),
    "free": ("plan",),
}


def is_part(value, part, moments):
    """Whether the value is such a part of a claim about a book or a plan with these moments."""
    match part:
        case "book":
            return isinstance(value, Book)
        case "plan":
            return isinstance(value, Plan)
        case "rule":
            return isinstance(value, Rule) and are_among(value.moments, moments)
        case "run":
            return isinstance(value, Run) and value.moments == moments
        case "moment":
            return is_moment_of(value, moments)
        case "integer":
            return is_integer(value)
        case _:
            return is_pace(value)


def is_claim(value):
    """Whether the value is a claim whose parts are valid."""
    if not isinstance(value, tuple) or len(value) < 2 or not isinstance(value[0], str) or value[0] not in PARTS:
        return False
    parts = PARTS[value[0]]
    if len(value) != len(parts) + 1 or not isinstance(value[1], (Book, Plan)):
        return False
    moments = value[1].moments
    return all([is_part(told, part, moments) for told, part in zip(value[1:], parts)])


def check_claim(claim):
    """InvalidClaim unless this is a claim."""
    if not is_claim(claim):
        raise InvalidClaim(claim)


def is_true(claim):
    """Whether the claim is true."""
    return certificate(claim) is not None


def some_run(book):
    """A run of the book; None if it has none."""
    return least_run(book, Run({moment: 0 for moment in book.moments}))


def why_least(book, floors, run):
    """A why, if this is the least run for the floors; otherwise None."""
    return why(book, floors) if least_run(book, floors) == run else None


def end_if_loose(book, a, b):
    """A loose end, if the book has a run and the low end of the span is None; otherwise None."""
    return loose_end(book, a, b) if has_run(book) else None


def slowest(plan, pace):
    """A bar for the pace, some pace, and a timetable at this one; None if there is no such bar or no timetable."""
    lines = bar(plan, pace)
    other = far_pace(plan)
    run = timetable(plan, other)
    return None if lines is None or run is None else (lines, other, run)


def certificate(claim):
    """A certificate of the claim; None if it is not true."""
    check_claim(claim)
    word, about, *rest = claim
    match word:
        case "runs":
            return some_run(about)
        case "stuck":
            return refusal(about)
        case "follows":
            return reason(about, *rest)
        case "open":
            return against(about, *rest)
        case "least":
            return why_least(about, *rest)
        case "gap":
            return run_with(about, *rest)
        case "loose":
            return end_if_loose(about, *rest)
        case "paced":
            return timetable(about, *rest)
        case "slowest":
            return slowest(about, *rest)
        case "banned":
            return ban(about)
        case _:
            return licence(about)


def is_run_of(book, value):
    """Whether the value is a Run that is a run of the book."""
    return isinstance(value, Run) and is_run(book, value.times())


def is_open(book, rule, value):
    """Whether the value is a Run of the book that does not keep the rule."""
    return is_run_of(book, value) and not rule.kept_by(value.times())


def is_gap(book, a, b, gap, value):
    """Whether the value is a Run of the book with just this gap of a and b."""
    return is_run_of(book, value) and value.gap(a, b) == gap


def is_paced(plan, pace, value):
    """Whether the value is a Run that is a timetable at the pace."""
    return isinstance(value, Run) and value.moments == plan.moments and is_timetable(plan, pace, value)


def is_slowest(plan, pace, value):
    """Whether the value is a tuple of a bar for the pace, a pace, and a timetable at this one."""
    if not isinstance(value, tuple) or len(value) != 3 or not is_pace(value[1]):
        return False
    return is_bar(plan, pace, value[0]) and is_paced(plan, value[1], value[2])


def is_certificate(claim, value):
    """Whether the value is a certificate of the claim."""
    check_claim(claim)
    word, about, *rest = claim
    match word:
        case "runs":
            return is_run_of(about, value)
        case "stuck":
            return is_refusal(about, value)
        case "follows":
            return is_reason(about, *rest, value)
        case "open":
            return is_open(about, *rest, value)
        case "least":
            return is_why(about, *rest, value)
        case "gap":
            return is_gap(about, *rest, value)
        case "loose":
            return is_loose_end(about, *rest, value)
        case "paced":
            return is_paced(about, *rest, value)
        case "slowest":
            return is_slowest(about, *rest, value)
        case "banned":
            return is_ban(about, value)
        case _:
            return is_licence(about, value)
