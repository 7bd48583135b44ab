"""Checks that several classes share: each raises the error that the document lists, or does nothing."""

from anyofthese.errors import InvalidShift, InvalidTimes, UnknownMoment
from anyofthese.kinds import is_integer, is_moment_of, is_times


def check_shift(value):
    """InvalidShift unless the value is an INTEGER."""
    if not is_integer(value):
        raise InvalidShift(value)


def check_times(value, moments):
    """InvalidTimes unless the value is TIMES with all these moments, and perhaps others."""
    if not is_times(value) or not all([moment in value for moment in moments]):
        raise InvalidTimes(value)


def check_moment(value, moments):
    """UnknownMoment unless the value is one of the moments."""
    if not is_moment_of(value, moments):
        raise UnknownMoment(value)
