"""Books: moments, and rules in a sequence ([24])."""

from anyofthese.checks import check_moment, check_position, check_rule, check_times
from anyofthese.earliest import Earliest
from anyofthese.errors import InvalidMoments, InvalidNames, InvalidPositions, InvalidRules, TooMany
from anyofthese.kinds import are_among, is_list, is_name, is_position, is_times
from anyofthese.rules import Rule


def check_names(moments):
    """InvalidMoments unless these are a list of different NAMES, at least one; TooMany if they are too many."""
    if not is_list(moments) or len(moments) == 0:
        raise InvalidMoments(None)
    for position, moment in enumerate(moments):
        if not is_name(moment) or moment in moments[:position]:
            raise InvalidMoments(position)
    if len(moments) > Book.MOST_MOMENTS:
        raise TooMany("moments", Book.MOST_MOMENTS)


def check_each(right):
    """InvalidRules with the place of the first rule that is not right."""
    if not all(right):
        raise InvalidRules(right.index(False))


def check_rules(rules, moments):
    """InvalidRules unless these are a list of Rules of these moments; TooMany if they are too many."""
    if not is_list(rules):
        raise InvalidRules(None)
    check_each([isinstance(rule, Rule) and are_among(rule.moments, moments) for rule in rules])
    if len(rules) > Book.MOST_RULES:
        raise TooMany("rules", Book.MOST_RULES)


def is_renaming(value, moments):
    """Whether the value is a dict from just these moments to different NAMES."""
    if not isinstance(value, dict) or len(value) != len(moments):
        return False
    if not all([moment in value and is_name(value[moment]) for moment in moments]):
        return False
    return len(set(list(value.values()))) == len(moments)


def renamed_rule(rule, names):
    """The Rule with the names that these moments get."""
    shifts = rule.earliest.shifts()
    return Rule(names[rule.moment], Earliest({names[moment]: shifts[moment] for moment in shifts}))


class Book:
    """Moments, sorted, and Rules of these, in a sequence. It never changes."""

    MOST_MOMENTS = 8
    MOST_RULES = 100

    def __init__(self, moments, rules=()):
        check_names(moments)
        check_rules(rules, moments)
        self._moments = tuple(sorted(moments))
        self._rules = list(rules)

    @property
    def moments(self):
        """The sorted tuple of the moments."""
        return self._moments

    def rules(self):
        """The list of the Rules."""
        return list(self._rules)

    def __getitem__(self, at):
        check_position(at, len(self._rules))
        return self._rules[at]

    def __len__(self):
        return len(self._rules)

    def __contains__(self, x):
        return isinstance(x, Rule) and x in self._rules

    def __iter__(self):
        raise TypeError("a Book is not iterated over")

    def rules_of(self, moment):
        """The list of the positions of the rules with this left."""
        check_moment(moment, self._moments)
        return [position for position, rule in enumerate(self._rules) if rule.moment == moment]

    def __and__(self, other):
        if not isinstance(other, Book):
            return NotImplemented
        return Book(sorted(set(self._moments) | set(other._moments)), [*self._rules, *other._rules])

    def with_rules(self, *rules):
        """The Book with these Rules behind its own."""
        for rule in rules:
            check_rule(rule, self._moments)
        return Book(self._moments, [*self._rules, *rules])

    def without(self, *positions):
        """The Book without the rules at these positions."""
        for place, position in enumerate(positions):
            if not is_position(position, len(self._rules)) or position in positions[:place]:
                raise InvalidPositions(place)
        return Book(self._moments, [rule for at, rule in enumerate(self._rules) if at not in positions])

    def renamed(self, names):
        """The Book with the names that its moments get."""
        if not is_renaming(names, self._moments):
            raise InvalidNames(names)
        return Book([names[moment] for moment in self._moments], [renamed_rule(rule, names) for rule in self._rules])

    def __eq__(self, other):
        return isinstance(other, Book) and self._moments == other._moments and self._rules == other._rules

    def __repr__(self):
        return f"Book({list(self._moments)!r}, {self._rules!r})"


def first_broken(book, times):
    """The position of the first rule that the times do not keep, or None."""
    check_times(times, book.moments)
    for position, rule in enumerate(book.rules()):
        if not rule.kept_by(times):
            return position
    return None


def is_run(book, value):
    """Whether the value is a dict with a time for just each moment of the book that keeps all rules."""
    if not is_times(value) or tuple(sorted(value)) != book.moments:
        return False
    return first_broken(book, value) is None
