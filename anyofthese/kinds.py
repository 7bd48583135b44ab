"""Tests of any value: whether it is a NAME, an INTEGER, a list, a position, TIMES, a pace and so on ([2], [11])."""

MOST_LETTERS = 8
MOST_BACK = 4


def is_name(value):
    """Whether the value is one to eight letters from a to z."""
    if not isinstance(value, str) or not 1 <= len(value) <= MOST_LETTERS:
        return False
    return all(["a" <= letter <= "z" for letter in value])


def is_integer(value):
    """Whether the value is an int and no bool."""
    return isinstance(value, int) and not isinstance(value, bool)


def is_count(value):
    """Whether the value is an INTEGER that is at least 0."""
    return is_integer(value) and value >= 0


def is_list(value):
    """Whether the value can be passed where the document says list."""
    return isinstance(value, (list, tuple))


def is_position(value, many):
    """Whether the value is a position among so many things."""
    return is_integer(value) and 0 <= value < many


def is_moment_of(value, moments):
    """Whether the value is one of the moments, which are a tuple of names or a dict from names."""
    # A value that is no string may have no hash, and could not be looked up in a dict.
    return isinstance(value, str) and value in moments


def are_among(part, moments):
    """Whether all names of this part are among the moments."""
    return all([moment in moments for moment in part])


def has_names(value):
    """Whether the value is a dict with one or more keys, all of them NAMES."""
    return isinstance(value, dict) and len(value) > 0 and all([is_name(key) for key in value])


def is_times(value):
    """Whether the value is a dict from one or more NAMES to INTEGERS."""
    return has_names(value) and all([is_integer(time) for time in value.values()])


def is_ceilings(value, moments):
    """Whether the value is a dict, perhaps empty, from some of the moments to INTEGERS."""
    if not isinstance(value, dict):
        return False
    return all([is_moment_of(key, moments) and is_integer(value[key]) for key in value])


def is_round_term(value):
    """Whether the value is a tuple (moment, shift, back) of a NAME, an INTEGER and a COUNT of at most 4."""
    if not isinstance(value, tuple) or len(value) != 3:
        return False
    moment, shift, back = value
    return is_name(moment) and is_integer(shift) and is_count(back) and back <= MOST_BACK


def are_integers(value, many):
    """Whether the value is a tuple of so many INTEGERS."""
    return isinstance(value, tuple) and len(value) == many and all([is_integer(part) for part in value])


def is_pace(value):
    """Whether the value is a tuple (top, bottom) of an INTEGER and an INTEGER of at least 1."""
    return are_integers(value, 2) and value[1] > 0
