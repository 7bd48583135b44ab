"""Dicts from moments to integers, as an Earliest has its shifts and a Run its times; none is changed here."""


def in_order(table):
    """A copy with sorted keys."""
    return {moment: table[moment] for moment in sorted(table)}


def moved(table, number):
    """All values so much greater."""
    return {moment: table[moment] + number for moment in table}


def left_out(table, moment):
    """All entries but that of the moment."""
    return {key: table[key] for key in table if key != moment}


def least_of(one, other):
    """The entries of both; of a moment that both have, the lesser value."""
    moments = sorted(set(one) | set(other))
    return {moment: min([table[moment] for table in (one, other) if moment in table]) for moment in moments}
