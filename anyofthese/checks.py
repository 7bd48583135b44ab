"""Checks that several classes share: each raises the error that the document lists, or does nothing."""

from anyofthese.errors import (
    InvalidCeilings, InvalidCount, InvalidPace, InvalidPosition, InvalidShift, InvalidTimes, OtherMoments,
    UnknownMoment,
)
from anyofthese.kinds import is_ceilings, is_count, is_integer, is_moment_of, is_pace, is_position, is_times


def check_shift(value):
    """InvalidShift unless the value is an INTEGER."""
    if not is_integer(value):
        raise InvalidShift(value)


def check_count(value):
    """InvalidCount unless the value is a COUNT."""
    if not is_count(value):
        raise InvalidCount(value)


def check_times(value, moments):
    """InvalidTimes unless the value is TIMES with all these moments, and perhaps others."""
    if not is_times(value) or not all([moment in value for moment in moments]):
        raise InvalidTimes(value)


def check_moment(value, moments):
    """UnknownMoment unless the value is one of the moments."""
    if not is_moment_of(value, moments):
        raise UnknownMoment(value)


def check_position(value, many):
    """InvalidPosition unless the value is a position among so many things."""
    if not is_position(value, many):
        raise InvalidPosition(value)


def check_rule(rule, moments):
    """UnknownMoment with the first moment of the rule that is not one of these: its left, then its alternatives."""
    alternatives = rule.earliest.moments
    for moment in [rule.moment, *alternatives]:
        check_moment(moment, moments)


def check_same_moments(one, other):
    """OtherMoments with both unless these are the same sorted tuples of moments."""
    if one != other:
        raise OtherMoments(one, other)


def check_ceilings(value, moments):
    """InvalidCeilings unless the value is a dict from some of the moments to INTEGERS."""
    if not is_ceilings(value, moments):
        raise InvalidCeilings(value)


def check_pace(value):
    """InvalidPace unless the value is a pace."""
    if not is_pace(value):
        raise InvalidPace(value)
