"""The errors of the package; their attributes are named as the parameters."""


class AnyError(ValueError):
    """A value that cannot be used."""


class InvalidName(AnyError):
    """A value that is no NAME."""

    def __init__(self, value):
        self.value = value


class InvalidShift(AnyError):
    """A value that is no INTEGER."""

    def __init__(self, value):
        self.value = value


class InvalidShifts(AnyError):
    """No dict from NAMES, or the first key, sorted, whose value is no INTEGER."""

    def __init__(self, name):
        self.name = name


class InvalidTimes(AnyError):
    """A value that is no times with the moments that are asked for."""

    def __init__(self, value):
        self.value = value


class InvalidMoments(AnyError):
    """No list of moments, or the place of the first wrong one."""

    def __init__(self, position):
        self.position = position


class InvalidRules(AnyError):
    """No list of rules, or the place of the first wrong one."""

    def __init__(self, position):
        self.position = position


class InvalidPosition(AnyError):
    """A value that is no position of a rule."""

    def __init__(self, value):
        self.value = value


class InvalidPositions(AnyError):
    """The place of the first value that is no position of a rule, or stands a second time."""

    def __init__(self, position):
        self.position = position


class InvalidNames(AnyError):
    """A value that does not give each moment another NAME."""

    def __init__(self, value):
        self.value = value


class InvalidCount(AnyError):
    """A value that is no COUNT, or too great a one."""

    def __init__(self, value):
        self.value = value


class InvalidChoice(AnyError):
    """No list with an alternative for each rule, or the place of the first wrong one."""

    def __init__(self, position):
        self.position = position


class InvalidCeilings(AnyError):
    """A value that is no dict from moments to INTEGERS."""

    def __init__(self, value):
        self.value = value


class InvalidTerms(AnyError):
    """No list of round terms, or the place of the first wrong one."""

    def __init__(self, position):
        self.position = position


class InvalidPace(AnyError):
    """A value that is no pace."""

    def __init__(self, value):
        self.value = value


class InvalidText(AnyError):
    """No string, or its first wrong line."""

    def __init__(self, line):
        self.line = line


class InvalidClaim(AnyError):
    """A value that is no claim."""

    def __init__(self, value):
        self.value = value


class InvalidCommand(AnyError):
    """A value that is no command."""

    def __init__(self, value):
        self.value = value


class MissingError(LookupError):
    """Something that is not there."""


class UnknownMoment(MissingError):
    """A value that is none of the moments."""

    def __init__(self, value):
        self.value = value


class StateError(RuntimeError):
    """Something that cannot be done as things are."""


class LastOne(StateError):
    """A moment that cannot be left out, since there is no other one."""

    def __init__(self, value):
        self.value = value


class NameTaken(StateError):
    """A new moment that is there already."""

    def __init__(self, value):
        self.value = value


class OtherMoments(StateError):
    """Two that should have the same moments, with the moments of both."""

    def __init__(self, one, other):
        self.one = one
        self.other = other


class NoRun(StateError):
    """A book without a run."""

    def __init__(self):
        super().__init__()


class NotKept(StateError):
    """The first rule that is not kept."""

    def __init__(self, position):
        self.position = position


class BackNeeded(StateError):
    """The first round rule that has a back of 0."""

    def __init__(self, position):
        self.position = position


class NothingToUndo(StateError):
    """No change that could be taken back."""

    def __init__(self):
        super().__init__()


class CommandFailed(StateError):
    """The place of the command that failed."""

    def __init__(self, position):
        self.position = position


class LimitError(ArithmeticError):
    """More than the limit."""


class TooMany(LimitError):
    """More of these than the limit."""

    def __init__(self, what, limit):
        self.what = what
        self.limit = limit
