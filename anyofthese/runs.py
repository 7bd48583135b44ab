"""Runs: times of at most eight moments ([31])."""

from anyofthese.books import Book
from anyofthese.checks import check_moment, check_same_moments, check_shift
from anyofthese.errors import InvalidMoments, InvalidTimes, TooMany
from anyofthese.kinds import is_list, is_moment_of, is_times
from anyofthese.tables import in_order, moved


class Run:
    """Times of at most eight moments, of whatever book, kept or not. It never changes."""

    def __init__(self, times):
        if not is_times(times):
            raise InvalidTimes(times)
        if len(times) > Book.MOST_MOMENTS:
            raise TooMany("moments", Book.MOST_MOMENTS)
        self._times = in_order(times)

    @staticmethod
    def of(**times):
        """The Run with these times of the moments that are the keywords."""
        return Run(times)

    @property
    def moments(self):
        """The sorted tuple of the moments."""
        return tuple(self._times)

    def times(self):
        """The dict from the moments to their times."""
        return dict(self._times)

    def __getitem__(self, at):
        check_moment(at, self._times)
        return self._times[at]

    def __contains__(self, x):
        return is_moment_of(x, self._times)

    def __len__(self):
        return len(self._times)

    def __iter__(self):
        raise TypeError("a Run is not iterated over")

    def __and__(self, other):
        """The earlier one of both [31]."""
        if not isinstance(other, Run):
            return NotImplemented
        check_same_moments(self.moments, other.moments)
        return Run({moment: min(self._times[moment], other._times[moment]) for moment in self._times})

    def __or__(self, other):
        """The later one of both [31]."""
        if not isinstance(other, Run):
            return NotImplemented
        check_same_moments(self.moments, other.moments)
        return Run({moment: max(self._times[moment], other._times[moment]) for moment in self._times})

    def is_at_most(self, other):
        """Whether each of the times is at most that of the other Run."""
        check_same_moments(self.moments, other.moments)
        return all([self._times[moment] <= other[moment] for moment in self._times])

    def __add__(self, other):
        check_shift(other)
        return Run(moved(self._times, other))

    def __radd__(self, other):
        return self + other

    def __sub__(self, other):
        check_shift(other)
        return self + -other

    def with_time(self, moment, time):
        """The Run with another time of this moment."""
        check_moment(moment, self._times)
        check_shift(time)
        return Run({**self._times, moment: time})

    def only(self, moments):
        """The Run of these moments alone."""
        if not is_list(moments) or len(moments) == 0:
            raise InvalidMoments(None)
        for position, moment in enumerate(moments):
            if moment not in self or moment in moments[:position]:
                raise InvalidMoments(position)
        return Run({moment: self._times[moment] for moment in moments})

    def gap(self, a, b):
        """The time of a less that of b."""
        check_moment(a, self._times)
        check_moment(b, self._times)
        return self._times[a] - self._times[b]

    def __eq__(self, other):
        return isinstance(other, Run) and self._times == other._times

    def __repr__(self):
        return f"Run({self._times!r})"
