"""What shows that no lesser pace has a timetable, that no pace has one, or that each one has ([84])."""

from anyofthese.checks import check_pace
from anyofthese.kinds import are_integers, is_position
from anyofthese.paces import far_pace, refusal_at, slow_pace, steps_of, timetable
from anyofthese.rings import gain_of, levels
from anyofthese.rising import numbers_below

# A ring has at most 8 steps, which go back by at most 4 rounds each, so the bottom of its pace is less than this. Then
# it is further from another pace, with the bottom q, than 1 of this many times q parts.
MORE_THAN_BOTTOM = 33


def just_below(pace):
    """A pace that is less, with no pace of a ring between both."""
    top, bottom = pace
    return MORE_THAN_BOTTOM * top - 1, MORE_THAN_BOTTOM * bottom


def bar(plan, pace):
    """A bar for the pace; None if there is a timetable at a lesser one."""
    check_pace(pace)
    lines = refusal_at(plan, just_below(pace))
    if lines is None:
        return None
    steps = steps_of(plan, lines)
    # No ring of the steps gains less than 0 at the pace, and none without a back gains just 0.
    numbers = numbers_below(lines, [(step[0], step[1], gain_of(step, pace)) for step in steps])
    tight = [step for step in steps if step[3] == 0 and numbers[step[1]] + gain_of(step, pace) == numbers[step[0]]]
    ranks = levels(lines, tight)
    return {moment: (lines[moment][0], numbers[moment], ranks[moment]) for moment in lines}


def is_line(plan, moment, value):
    """Whether the value is a tuple of the position of a round rule with this left and two INTEGERS."""
    return are_integers(value, 3) and is_position(value[0], len(plan)) and plan[value[0]].moment == moment


def are_lines(plan, value):
    """Whether the value is a dict from moments to such tuples, of round rules all of whose moments are keys."""
    if not isinstance(value, dict) or len(value) == 0 or not all([is_line(plan, key, value[key]) for key in value]):
        return False
    return all([step[1] in value for step in steps_of(plan, value)])


def is_barred(step, pace, lines):
    """Whether the numbers, and if need be the ranks, of the lines suffice for the step."""
    left, moment, _, back = step
    gain = gain_of(step, pace) + lines[moment][1] - lines[left][1]
    return gain > 0 or gain == 0 and (back > 0 or lines[moment][2] < lines[left][2])


def is_bar(plan, pace, value):
    """Whether the value is a bar for the pace."""
    check_pace(pace)
    return are_lines(plan, value) and all([is_barred(step, pace, value) for step in steps_of(plan, value)])


def ban(plan):
    """A ban; None if the kind is not "none".

    The rings of a refusal at a pace that is greater than that of any ring have no back, and gain more than 0."""
    lines = refusal_at(plan, far_pace(plan))
    if lines is None:
        return None
    heights = levels(lines, steps_of(plan, lines))
    return {moment: (*lines[moment], heights[moment]) for moment in lines}


def is_banned(step, lines):
    """Whether the levels, or on the same level the numbers, of the lines suffice for the step."""
    left, moment, shift, back = step
    if lines[moment][2] != lines[left][2]:
        return lines[moment][2] < lines[left][2]
    return back == 0 and len(lines) * shift + lines[moment][1] >= lines[left][1] + 1


def is_ban(plan, value):
    """Whether the value is a ban."""
    return are_lines(plan, value) and all([is_banned(step, value) for step in steps_of(plan, value)])


def kept_step(rule, pace, run):
    """A step of the round rule by which the timetable at the pace keeps it."""
    steps = [(rule.moment, *term) for term in rule.terms]
    kept = [step for step in steps if run[rule.moment] >= run[step[1]] + gain_of(step, pace)]
    return kept[0]


def licence(plan):
    """A licence; None if the kind is not "any".

    The rings by which a timetable at a pace that is less than that of any ring is kept have no back, and gain 0 or
    less."""
    pace = slow_pace(plan)
    run = timetable(plan, pace)
    if run is None:
        return None
    heights = levels(plan.moments, [kept_step(rule, pace, run) for rule in plan.rules()])
    return {moment: (run[moment], heights[moment]) for moment in plan.moments}


def is_free(step, lines):
    """Whether the levels, or on the same level the numbers, of the lines show that the step lets a rule be kept."""
    left, moment, shift, back = step
    if lines[moment][1] != lines[left][1]:
        return lines[moment][1] < lines[left][1]
    return back == 0 and lines[left][0] >= lines[moment][0] + shift


def is_licence(plan, value):
    """Whether the value is a licence."""
    if not isinstance(value, dict) or len(value) != len(plan.moments):
        return False
    if not all([moment in value and are_integers(value[moment], 2) for moment in plan.moments]):
        return False
    return all([any([is_free((rule.moment, *term), value) for term in rule.terms]) for rule in plan.rules()])
