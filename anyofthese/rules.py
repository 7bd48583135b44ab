"""Rules: a moment is not ahead of the earliest of some moments ([21] to [23])."""

from anyofthese.checks import check_times
from anyofthese.earliest import Earliest
from anyofthese.errors import InvalidName
from anyofthese.kinds import is_name


class Rule:
    """That a moment, the left, is not ahead of an Earliest. It never changes."""

    def __init__(self, moment, earliest):
        if not is_name(moment):
            raise InvalidName(moment)
        self._moment = moment
        # Made anew, since a Term may stand for the Earliest.
        self._earliest = Earliest(earliest.shifts())

    @property
    def moment(self):
        return self._moment

    @property
    def earliest(self):
        return self._earliest

    @property
    def moments(self):
        """The sorted tuple of the left and the alternatives, each once."""
        alternatives = self._earliest.moments
        return tuple(sorted(set([self._moment, *alternatives])))

    @property
    def is_always(self):
        """Whether all times keep the rule [22]."""
        return self._moment in self._earliest and self._earliest[self._moment] <= 0

    @property
    def is_never(self):
        """Whether no times keep the rule [22]."""
        return self._earliest.moments == (self._moment,) and self._earliest[self._moment] > 0

    def kept_by(self, times):
        """Whether these times keep the rule."""
        return self.slack(times) >= 0

    def slack(self, times):
        """The time of the left less the value of the Earliest [32]."""
        check_times(times, self.moments)
        return times[self._moment] - self._earliest(times)

    def contrary(self):
        """The list of the Rules that just those times keep that do not keep this one [23]."""
        shifts = self._earliest.shifts()
        return [Rule(moment, Earliest({self._moment: 1 - shifts[moment]})) for moment in shifts]

    def __add__(self, other):
        return Rule(self._moment, self._earliest + other)

    def __radd__(self, other):
        return self + other

    def __sub__(self, other):
        return Rule(self._moment, self._earliest - other)

    def __eq__(self, other):
        return isinstance(other, Rule) and self._moment == other._moment and self._earliest == other._earliest

    def __str__(self):
        return f"rule {self._moment} {self._earliest!s}"

    def __repr__(self):
        return f"Rule({self._moment!r}, {self._earliest!r})"
