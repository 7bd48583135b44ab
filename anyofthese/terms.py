"""Terms: a moment with a shift [12]."""

from anyofthese.checks import check_shift, check_times
from anyofthese.earliest import Earliest
from anyofthese.errors import InvalidName
from anyofthese.kinds import is_name
from anyofthese.wording import term_text


class Term:
    """A moment with a shift, which is added to its time. It never changes."""

    def __init__(self, moment, shift=0):
        if not is_name(moment):
            raise InvalidName(moment)
        check_shift(shift)
        self._moment = moment
        self._shift = shift

    @property
    def moment(self):
        return self._moment

    @property
    def shift(self):
        return self._shift

    def shifts(self):
        """The dict that the Earliest of this one term has: so a Term can be taken where one is asked for."""
        return {self._moment: self._shift}

    def __call__(self, times):
        """The value at these times."""
        check_times(times, (self._moment,))
        return times[self._moment] + self._shift

    def __add__(self, other):
        check_shift(other)
        return Term(self._moment, self._shift + other)

    def __radd__(self, other):
        return self + other

    def __sub__(self, other):
        check_shift(other)
        return self + -other

    def __or__(self, other):
        if not isinstance(other, (Term, Earliest)):
            return NotImplemented
        return Earliest(self.shifts()) | Earliest(other.shifts())

    def __ror__(self, other):
        if not isinstance(other, Earliest):
            return NotImplemented
        return other | Earliest(self.shifts())

    def __eq__(self, other):
        return isinstance(other, Term) and self._moment == other._moment and self._shift == other._shift

    def __str__(self):
        return str(term_text(self._moment, self._shift))

    def __repr__(self):
        return f"Term({self._moment!r}, {self._shift!r})"
