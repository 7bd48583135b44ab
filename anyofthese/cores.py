"""Which rules alone leave a book without a run ([52])."""

from anyofthese.errors import TooMany
from anyofthese.kinds import is_position
from anyofthese.refusals import refusal, refusal_of

MOST_RULES = 8


def is_stuck(book, positions):
    """Whether the book of the rules at these positions alone has no run."""
    return refusal_of(book.moments, [book[position] for position in positions]) is not None


def one_less(positions):
    """The list of these positions, without one of them each time."""
    return [positions[:place] + positions[place + 1:] for place in range(len(positions))]


def core(book):
    """A core of the book; None if it has a run."""
    told = refusal(book)
    if told is None:
        return None
    used = tuple(sorted([line[0] for line in told.values()]))
    needed = used
    # A rule that was needed once is needed still if others are left out behind that.
    for position in used:
        fewer = tuple([other for other in needed if other != position])
        if is_stuck(book, fewer):
            needed = fewer
    return needed


def is_core(book, value):
    """Whether the value is a core of the book."""
    if not isinstance(value, tuple) or not all([is_position(position, len(book)) for position in value]):
        return False
    if list(value) != sorted(set(list(value))):
        return False
    return is_stuck(book, value) and not any([is_stuck(book, fewer) for fewer in one_less(value)])


def all_cores(book):
    """The sorted list of all cores; empty if the book has a run."""
    if len(book) > MOST_RULES:
        raise TooMany("rules", MOST_RULES)
    sets = [()]
    for position in range(len(book)):
        sets = sets + [(*positions, position) for positions in sets]
    stuck = {positions: is_stuck(book, positions) for positions in sets}
    found = [positions for positions in sets if stuck[positions]]
    return sorted([positions for positions in found if not any([stuck[fewer] for fewer in one_less(positions)])])
