"""Round rules and plans, and the book of a plan at a pace ([81], [82])."""

from anyofthese.books import Book, check_each, check_names
from anyofthese.checks import check_pace, check_position
from anyofthese.earliest import MOST_TERMS, Earliest
from anyofthese.errors import InvalidName, InvalidRules, InvalidTerms, TooMany
from anyofthese.kinds import are_among, is_list, is_name, is_round_term
from anyofthese.rules import Rule
from anyofthese.wording import round_term_text

MOST_ROUND_RULES = 30


def check_terms(terms):
    """InvalidTerms unless these are a list of round terms, at least one, no two with the same moment and back."""
    if not is_list(terms) or len(terms) == 0:
        raise InvalidTerms(None)
    places = {}
    for position, term in enumerate(terms):
        if not is_round_term(term) or (term[0], term[2]) in places:
            raise InvalidTerms(position)
        places[term[0], term[2]] = True
    if len(terms) > MOST_TERMS:
        raise TooMany("terms", MOST_TERMS)


def check_round_rules(rules, moments):
    """InvalidRules unless these are a list of RoundRules of these moments; TooMany if they are too many."""
    if not is_list(rules):
        raise InvalidRules(None)
    check_each([isinstance(rule, RoundRule) and are_among(rule.moments, moments) for rule in rules])
    if len(rules) > MOST_ROUND_RULES:
        raise TooMany("rules", MOST_ROUND_RULES)


class RoundRule:
    """That in each round a moment, the left, is not ahead of the earliest of its round terms. It never changes."""

    def __init__(self, moment, terms):
        if not is_name(moment):
            raise InvalidName(moment)
        check_terms(terms)
        self._moment = moment
        self._terms = tuple(sorted(terms, key=lambda term: (term[0], term[2])))

    @property
    def moment(self):
        return self._moment

    @property
    def terms(self):
        """The tuple of the round terms, sorted by moment, then by back."""
        return self._terms

    @property
    def moments(self):
        """The sorted tuple of the left and the moments of the round terms, each once."""
        return tuple(sorted(set([self._moment, *[term[0] for term in self._terms]])))

    def __eq__(self, other):
        return isinstance(other, RoundRule) and self._moment == other._moment and self._terms == other._terms

    def __str__(self):
        texts = [round_term_text(moment, shift, back) for moment, shift, back in self._terms]
        return " ".join(["rule", self._moment, *texts])

    def __repr__(self):
        return f"RoundRule({self._moment!r}, {list(self._terms)!r})"


class Plan:
    """Moments, sorted, and RoundRules of these, in a sequence. It never changes."""

    def __init__(self, moments, rules=()):
        check_names(moments)
        check_round_rules(rules, moments)
        self._moments = tuple(sorted(moments))
        self._rules = list(rules)

    @property
    def moments(self):
        """The sorted tuple of the moments."""
        return self._moments

    def rules(self):
        """The list of the RoundRules."""
        return list(self._rules)

    def __getitem__(self, at):
        check_position(at, len(self._rules))
        return self._rules[at]

    def __len__(self):
        return len(self._rules)

    def __contains__(self, x):
        return isinstance(x, RoundRule) and x in self._rules

    def __iter__(self):
        raise TypeError("a Plan is not iterated over")

    def __eq__(self, other):
        return isinstance(other, Plan) and self._moments == other._moments and self._rules == other._rules

    def __repr__(self):
        return f"Plan({list(self._moments)!r}, {self._rules!r})"


def shifts_at(rule, pace):
    """The dict of the shifts of the round rule at the pace, put together."""
    top, bottom = pace
    shifts = {}
    for moment, shift, back in rule.terms:
        moved = bottom * shift - top * back
        shifts[moment] = min(moved, shifts.get(moment, moved))
    return shifts


def rows_at(plan, pace):
    """The rows of the rules of the plan at the pace."""
    return [(rule.moment, shifts_at(rule, pace)) for rule in plan.rules()]


def at_pace(plan, pace):
    """The Book of the plan at the pace."""
    check_pace(pace)
    return Book(plan.moments, [Rule(left, Earliest(shifts)) for left, shifts in rows_at(plan, pace)])
