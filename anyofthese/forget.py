"""What is left of a book if moments are forgotten, and how their times are found again ([71])."""

from anyofthese.books import Book, first_broken
from anyofthese.checks import check_same_moments
from anyofthese.errors import LastOne, NotKept, TooMany, UnknownMoment
from anyofthese.kinds import is_moment_of
from anyofthese.rules import Rule
from anyofthese.runs import Run
from anyofthese.terms import Term


def held_by(rule):
    """The Earliest of the rule without its own left."""
    return rule.earliest.without(rule.moment) if rule.moment in rule.earliest else rule.earliest


def holds(book, moment):
    """The list of the holds of the moment; None if a rule of it is never kept."""
    rules = [book[position] for position in book.rules_of(moment)]
    if any([rule.is_never for rule in rules]):
        return None
    return [held_by(rule) for rule in rules if not rule.is_always]


def is_replaced(rule, moment):
    """Whether the rule has another left, and the moment is one of its alternatives."""
    return rule.moment != moment and moment in rule.earliest


def check_many(book, moment, found):
    """TooMany if there could come too many rules when these holds of the moment are put in."""
    staying = [rule for rule in book.rules() if moment not in rule.moments]
    replaced = [rule for rule in book.rules() if is_replaced(rule, moment)]
    if len(staying) + len(replaced) * len(found) > Book.MOST_RULES:
        raise TooMany("rules", Book.MOST_RULES)


def put_into(rule, moment, found):
    """The list of the rules that stand for this one when these holds of the moment are put in."""
    if not is_replaced(rule, moment):
        return [] if rule.moment == moment else [rule]
    return [Rule(rule.moment, rule.earliest.put_in(moment, hold)) for hold in found]


def never_kept(moments):
    """The Book of these moments with one rule alone, which no times keep."""
    return Book(moments, [Rule(moments[0], Term(moments[0]) + 1)])


def forget(book, moment):
    """The Book without the moment, whose runs are those of the book without its time."""
    found = holds(book, moment)
    others = [other for other in book.moments if other != moment]
    if not others:
        raise LastOne(moment)
    if found is None:
        return never_kept(others)
    check_many(book, moment, found)
    return Book(others, [new for rule in book.rules() for new in put_into(rule, moment, found)])


def forget_all(book, *moments):
    """The Book in which these moments are forgotten, one behind another."""
    for place, moment in enumerate(moments):
        if not is_moment_of(moment, book.moments) or moment in moments[:place]:
            raise UnknownMoment(moment)
    if len(moments) == len(book.moments):
        raise LastOne(moments[-1])
    left = book
    for moment in moments:
        left = forget(left, moment)
    return left


def room_for(book, moment, run):
    """A time of a moment without holds with which the run keeps the rules that have it among their alternatives."""
    rules = [rule for rule in book.rules() if is_replaced(rule, moment)]
    rooms = [run[rule.moment] - rule.earliest[moment] for rule in rules]
    return min(rooms) if rooms else 0


def completed(book, moment, run):
    """The Run of the book that is this run of the book without the moment, with a time of the moment."""
    left = forget(book, moment)
    check_same_moments(left.moments, run.moments)
    position = first_broken(left, run.times())
    if position is not None:
        raise NotKept(position)
    times = [hold(run.times()) for hold in holds(book, moment)]
    return Run({**run.times(), moment: max(times) if times else room_for(book, moment, run)})
