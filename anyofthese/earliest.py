"""The earliest of some moments, each with a shift ([13] to [15])."""

from anyofthese.checks import check_moment, check_shift, check_times
from anyofthese.errors import InvalidShifts, LastOne, TooMany
from anyofthese.kinds import has_names, is_integer, is_moment_of
from anyofthese.tables import in_order, least_of, left_out, moved
from anyofthese.wording import term_text

MOST_TERMS = 8


def check_shifts(shifts):
    """InvalidShifts unless these are a dict from NAMES to INTEGERS; TooMany if they are too many."""
    if not has_names(shifts):
        raise InvalidShifts(None)
    for moment in sorted(shifts):
        if not is_integer(shifts[moment]):
            raise InvalidShifts(moment)
    if len(shifts) > MOST_TERMS:
        raise TooMany("terms", MOST_TERMS)


class Earliest:
    """One to eight terms of different moments; its value is the least of theirs. It never changes."""

    def __init__(self, shifts):
        check_shifts(shifts)
        self._shifts = in_order(shifts)

    @staticmethod
    def of(**shifts):
        """The Earliest with these shifts of the moments that are the keywords."""
        return Earliest(shifts)

    @property
    def moments(self):
        """The sorted tuple of the moments."""
        return tuple(self._shifts)

    def shifts(self):
        """The dict from the moments to their shifts."""
        return dict(self._shifts)

    def __getitem__(self, at):
        check_moment(at, self._shifts)
        return self._shifts[at]

    def __contains__(self, x):
        return is_moment_of(x, self._shifts)

    def __len__(self):
        return len(self._shifts)

    def __iter__(self):
        raise TypeError("an Earliest is not iterated over")

    def __call__(self, times):
        """The least of the values of the terms at these times."""
        check_times(times, self._shifts)
        return min([times[moment] + self._shifts[moment] for moment in self._shifts])

    def first(self, times):
        """The sorted tuple of the moments whose terms have the least value at these times."""
        least = self(times)
        return tuple([moment for moment in self._shifts if times[moment] + self._shifts[moment] == least])

    def __add__(self, other):
        check_shift(other)
        return Earliest(moved(self._shifts, other))

    def __radd__(self, other):
        return self + other

    def __sub__(self, other):
        check_shift(other)
        return self + -other

    def __or__(self, other):
        # With a Term on the right, Term answers: its file needs this one, so this one cannot know it.
        if not isinstance(other, Earliest):
            return NotImplemented
        return Earliest(least_of(self._shifts, other._shifts))

    def is_never_later(self, other):
        """Whether at all times the value is at most that of the other Earliest [14]."""
        shifts = other.shifts()
        return all([moment in self._shifts and self._shifts[moment] <= shifts[moment] for moment in shifts])

    def without(self, moment):
        """The Earliest without the term of the moment."""
        check_moment(moment, self._shifts)
        if len(self._shifts) == 1:
            raise LastOne(moment)
        return Earliest(left_out(self._shifts, moment))

    def put_in(self, moment, earliest):
        """The Earliest in which another one, or a Term, stands for the moment [15]."""
        check_moment(moment, self._shifts)
        terms = moved(earliest.shifts(), self._shifts[moment])
        return Earliest(least_of(left_out(self._shifts, moment), terms))

    def __eq__(self, other):
        return isinstance(other, Earliest) and self._shifts == other._shifts

    def __str__(self):
        return " ".join([term_text(moment, self._shifts[moment]) for moment in self._shifts])

    def __repr__(self):
        return f"Earliest({self._shifts!r})"
