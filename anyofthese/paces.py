"""How fast a plan can be repeated, round after round ([82], [83], [85])."""

from anyofthese.checks import check_pace, check_same_moments
from anyofthese.errors import BackNeeded, InvalidCount
from anyofthese.kinds import MOST_BACK, is_count
from anyofthese.plans import rows_at
from anyofthese.refusals import refusal_of_rows
from anyofthese.rings import least_pace_of
from anyofthese.rising import are_kept, settled
from anyofthese.runs import Run

MOST_ROUNDS = 300


def timetable(plan, pace):
    """A Run that is a timetable at the pace; None if there is none."""
    check_pace(pace)
    times, _ = settled(rows_at(plan, pace), {moment: 0 for moment in plan.moments})
    return Run(times) if len(times) == len(plan.moments) else None


def is_timetable(plan, pace, run):
    """Whether the Run is a timetable at the pace."""
    check_pace(pace)
    check_same_moments(plan.moments, run.moments)
    return are_kept(rows_at(plan, pace), run.times())


def refusal_at(plan, pace):
    """A refusal of the book of the plan at the pace; None if there is a timetable."""
    return refusal_of_rows(plan.moments, rows_at(plan, pace))


def steps_of(plan, lines):
    """The steps of the round rules whose positions stand first in the lines, a dict from moments."""
    positions = [lines[moment][0] for moment in lines]
    return [(plan[position].moment, *term) for position in positions for term in plan[position].terms]


def far_pace(plan):
    """A pace that is greater than that of each ring of round terms, as its opposite is less than that of each one."""
    sizes = [abs(term[1]) for rule in plan.rules() for term in rule.terms]
    return len(plan.moments) * max([0, *sizes]) + 1, 1


def slow_pace(plan):
    """The opposite of the far pace."""
    top, bottom = far_pace(plan)
    return -top, bottom


def kind(plan):
    """The tuple that tells at which paces there is a timetable.

    As long as there is a refusal, its rings gain more than 0, and do so at all paces that are less than that of each
    of them; so the least one of theirs is the next pace to be tried, and no pace ahead of it is the least pace."""
    far = far_pace(plan)
    pace = slow_pace(plan)
    lines = refusal_at(plan, pace)
    if lines is None:
        return ("any",)
    if refusal_at(plan, far) is not None:
        return ("none",)
    while lines is not None:
        pace = least_pace_of(list(lines), steps_of(plan, lines), far)
        lines = refusal_at(plan, pace)
    return "least", pace


def check_played(plan, start, rounds):
    """OtherMoments, InvalidCount or BackNeeded unless the plan can be played from the start for so many rounds."""
    check_same_moments(plan.moments, start.moments)
    if not is_count(rounds) or rounds > MOST_ROUNDS:
        raise InvalidCount(rounds)
    for position, rule in enumerate(plan.rules()):
        if 0 in [term[2] for term in rule.terms]:
            raise BackNeeded(position)


def next_times(rules, past):
    """The times of the round behind the past ones, a list of times by rounds."""
    times = dict(past[-1])
    for rule in rules:
        value = min([past[-back][moment] + shift for moment, shift, back in rule.terms])
        times[rule.moment] = max(times[rule.moment], value)
    return times


def played(plan, start, rounds):
    """The list of the Runs of the rounds from 1 on, from a start that all rounds up to 0 have."""
    check_played(plan, start, rounds)
    past = [start.times() for _ in range(MOST_BACK)]
    for _ in range(rounds):
        past.append(next_times(plan.rules(), past))
    return [Run(times) for times in past[MOST_BACK:]]
