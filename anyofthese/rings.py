"""Steps from lefts to alternatives, over rounds, and the rings that they make ([83], [84]).

A step is a tuple (left, moment, shift, back) of a round rule's left and one of its round terms."""

from math import gcd


def gain_of(step, pace):
    """The shift of the step's term at the pace."""
    top, bottom = pace
    return bottom * step[2] - top * step[3]


def losing_ring(moments, steps, pace):
    """A list of steps that are a ring and at the pace gain less than 0; None if there is none.

    Each number follows the step that made it least. If numbers still move in as many sweeps as there are moments,
    then the steps that they follow from there run into such a ring."""
    numbers = {moment: 0 for moment in moments}
    followed = {}
    for _ in moments:
        last = None
        for step in steps:
            left, moment = step[:2]
            bound = numbers[moment] + gain_of(step, pace)
            if bound < numbers[left]:
                numbers[left] = bound
                followed[left] = step
                last = left
        if last is None:
            return None
    for _ in moments:
        last = followed[last][1]
    ring = [followed[last]]
    while ring[-1][1] != last:
        ring.append(followed[ring[-1][1]])
    return ring


def pace_of(ring):
    """The pace, in lowest terms, at which the ring, which goes back by at least one round, gains just 0."""
    top = sum([step[2] for step in ring])
    bottom = sum([step[3] for step in ring])
    shared = gcd(top, bottom)
    return top // shared, bottom // shared


def least_pace_of(moments, steps, pace):
    """The least pace of the rings of the steps, all of which gain 0 or less at it; the one passed is greater.

    There is such a ring, and the rings without a back gain more than 0."""
    least = pace
    ring = losing_ring(moments, steps, least)
    while ring is not None:
        least = pace_of(ring)
        ring = losing_ring(moments, steps, least)
    return least


def reached(start, steps):
    """The dict of True for all moments to which steps lead from the start, itself included."""
    found = {start: True}
    many = 0
    while many < len(found):
        many = len(found)
        for step in steps:
            if step[0] in found:
                found[step[1]] = True
    return found


def levels(moments, steps):
    """The dict from moments to levels: a step goes to the same level if it stands in a ring, else to a lesser one."""
    return {moment: len(reached(moment, steps)) for moment in moments}
