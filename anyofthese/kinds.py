"""Tests of any value: whether it is a NAME, an INTEGER, a COUNT, a list, a position, TIMES ([2], [11])."""

MOST_LETTERS = 8


def is_name(value):
    """Whether the value is one to eight letters from a to z."""
    if not isinstance(value, str) or not 1 <= len(value) <= MOST_LETTERS:
        return False
    return all(["a" <= letter <= "z" for letter in value])


def is_integer(value):
    """Whether the value is an int and no bool."""
    return isinstance(value, int) and not isinstance(value, bool)


def is_count(value):
    """Whether the value is an INTEGER that is at least 0."""
    return is_integer(value) and value >= 0


def is_list(value):
    """Whether the value can be passed where the document says list."""
    return isinstance(value, (list, tuple))


def is_position(value, many):
    """Whether the value is a position among so many things."""
    return is_integer(value) and 0 <= value < many


def is_moment_of(value, moments):
    """Whether the value is one of the moments, which are a tuple of names or a dict from names."""
    # A value that is no string may have no hash, and could not be looked up in a dict.
    return isinstance(value, str) and value in moments


def has_names(value):
    """Whether the value is a dict with one or more keys, all of them NAMES."""
    return isinstance(value, dict) and len(value) > 0 and all([is_name(key) for key in value])


def is_times(value):
    """Whether the value is a dict from one or more NAMES to INTEGERS."""
    return has_names(value) and all([is_integer(time) for time in value.values()])
