"""Books by chance, and what the document says of them, tried out slowly and without the package's own functions."""

import itertools
import random
from fractions import Fraction

from anyofthese.books import Book
from anyofthese.earliest import Earliest
from anyofthese.plans import Plan, RoundRule
from anyofthese.rules import Rule
from anyofthese.runs import Run


def chance(seed):
    return random.Random(seed)


def some_rule(luck, moments, most, size):
    """A rule with up to most alternatives and shifts of up to this size."""
    alternatives = luck.sample(sorted(moments), luck.randint(1, min(most, len(moments))))
    return Rule(luck.choice(sorted(moments)), Earliest({a: luck.randint(-size, size) for a in alternatives}))


def some_book(luck, moments, rules, most=3, size=3):
    return Book(list(moments), [some_rule(luck, moments, most, size) for _ in range(rules)])


def some_run(luck, moments, size):
    return Run({moment: luck.randint(-size, size) for moment in moments})


def zeros(moments):
    return Run({moment: 0 for moment in moments})


def value(rule, times):
    return min(times[moment] + shift for moment, shift in rule.earliest.shifts().items())


def is_kept(rule, times):
    return times[rule.moment] >= value(rule, times)


def are_kept(book, times):
    return all(is_kept(rule, times) for rule in book.rules())


def box(moments, low, high):
    """All times from low to high, sorted by the lists of their times by sorted moments."""
    for row in itertools.product(range(low, high + 1), repeat=len(moments)):
        yield dict(zip(sorted(moments), row))


def lifted_once(book, times):
    return {
        moment: max([times[moment]] + [value(rule, times) for rule in book.rules() if rule.moment == moment])
        for moment in times
    }


def lifted_often(book, floors):
    """The least times by lifting the floors again and again; None if this comes to no end.

    In a why no time is later than a floor and the shifts of fewer rules than there are moments."""
    times = floors.times()
    sizes = [abs(shift) for rule in book.rules() for shift in rule.earliest.shifts().values()]
    end = max(times.values()) + len(times) * max(sizes, default=0)
    while max(times.values()) <= end:
        further = lifted_once(book, times)
        if further == times:
            return times
        times = further
    return None


def told_why(book, floors, times, why):
    """Whether the list is a why, line by line."""
    if sorted(moment for moment, _ in why) != sorted(times):
        return False
    for line, (moment, position) in enumerate(why):
        ahead = [other for other, _ in why[:line]]
        if position is None:
            if times[moment] != floors[moment]:
                return False
        else:
            rule = book.rules()[position]
            if rule.moment != moment:
                return False
            for other, shift in rule.earliest.shifts().items():
                if times[other] + shift < times[moment]:
                    return False
                if times[other] + shift == times[moment] and other not in ahead:
                    return False
    return True


def told_refusal(moments, rules, refusal):
    """Whether the dict is a refusal of a book with these moments and rules, line by line, with sorted keys."""
    if not refusal or list(refusal) != sorted(refusal):
        return False
    many = len(refusal)
    for moment, (position, number) in refusal.items():
        if moment not in moments or rules[position].moment != moment:
            return False
        for other, shift in rules[position].earliest.shifts().items():
            if other not in refusal or many * shift + refusal[other][1] < number + 1:
                return False
    return True


def runs_in_box(book, high):
    """The list of all runs with times from 0 to high, as dicts."""
    return [times for times in box(book.moments, 0, high) if are_kept(book, times)]


def has_run_by_lifting(moments, rules):
    return lifted_often(Book(list(moments), list(rules)), zeros(moments)) is not None


def follows_by_lifting(book, rule):
    """Whether the book with the contrary of the rule, made by hand, comes to no run."""
    shifts = rule.earliest.shifts()
    contrary = [Rule(moment, Earliest({rule.moment: 1 - shifts[moment]})) for moment in sorted(shifts)]
    return not has_run_by_lifting(book.moments, book.rules() + contrary)


def book_with_run(luck, moments, rules, most=3, size=3):
    """A book by chance that has a run."""
    while True:
        book = some_book(luck, moments, rules, most, size)
        if has_run_by_lifting(moments, book.rules()):
            return book


def great_book(luck, rules=100, most=8, size=10 ** 59):
    """A book with eight moments, great shifts and a run, which many of its rules only just keep."""
    moments = "abcdefgh"
    run = some_run(luck, moments, size)
    made = []
    for _ in range(rules):
        rule = some_rule(luck, moments, most, size)
        other = luck.choice([moment for moment in moments if moment != rule.moment])
        shifts = {
            moment: run.gap(rule.moment, moment) + luck.randint(0, size // 10)
            for moment in rule.earliest.moments if moment != rule.moment
        }
        shifts[other] = run.gap(rule.moment, other) - luck.randint(0, 3)
        made.append(Rule(rule.moment, Earliest(shifts)))
    return Book(list(moments), made)


def some_round_rule(luck, moments, most=3, size=3, backs=(0, 0, 1, 1, 2, 3, 4)):
    """A round rule with up to most round terms, shifts of up to this size and backs by chance out of these."""
    shifts = {}
    for _ in range(luck.randint(1, most)):
        shifts[luck.choice(sorted(moments)), luck.choice(backs)] = luck.randint(-size, size)
    terms = [(moment, shift, back) for (moment, back), shift in shifts.items()]
    return RoundRule(luck.choice(sorted(moments)), terms)


def some_plan(luck, moments, rules, most=3, size=3, backs=(0, 0, 1, 1, 2, 3, 4)):
    return Plan(list(moments), [some_round_rule(luck, moments, most, size, backs) for _ in range(rules)])


def rings(moments, steps):
    """All rings of the steps (left, moment, shift, back), each without a moment twice, as lists of (shift, back)."""
    found = []

    def walk(start, at, seen, path):
        for left, moment, shift, back in steps:
            if left == at and moment == start:
                found.append(path + [(shift, back)])
            elif left == at and moment > start and moment not in seen:
                walk(start, moment, seen + [moment], path + [(shift, back)])

    for start in moments:
        walk(start, start, [start], [])
    return found


def bounds_of_choice(moments, steps):
    """The least pace if each round rule has the term of its step alone, as (rank, fraction): a rank of -1 for a
    timetable at every pace, of 1 for none at any."""
    least = (-1, 0)
    for ring in rings(moments, steps):
        shift = sum(step[0] for step in ring)
        back = sum(step[1] for step in ring)
        if back:
            least = max(least, (0, Fraction(shift, back)))
        elif shift > 0:
            return (1, 0)
    return least


def kind_by_choices(plan):
    """The kind of a small plan, by all choices of a round term for each round rule and all rings of each choice."""
    least = (1, 0)
    for choice in itertools.product(*[rule.terms for rule in plan.rules()]):
        steps = [(rule.moment, *term) for rule, term in zip(plan.rules(), choice)]
        least = min(least, bounds_of_choice(plan.moments, steps))
    if least[0]:
        return ("any",) if least[0] < 0 else ("none",)
    return "least", (least[1].numerator, least[1].denominator)


def book_at(plan, pace):
    """The book of the plan at the pace, made by hand."""
    top, bottom = pace
    rules = []
    for rule in plan.rules():
        shifts = {}
        for moment, shift, back in rule.terms:
            shifts.setdefault(moment, []).append(bottom * shift - top * back)
        rules.append(Rule(rule.moment, Earliest({moment: min(found) for moment, found in shifts.items()})))
    return Book(list(plan.moments), rules)
