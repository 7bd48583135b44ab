"""The texts of books and plans, and how they are read ([91])."""

from anyofthese.books import Book
from anyofthese.earliest import MOST_TERMS, Earliest
from anyofthese.errors import InvalidText
from anyofthese.kinds import are_among, is_name
from anyofthese.plans import MOST_ROUND_RULES, Plan, RoundRule
from anyofthese.rules import Rule
from anyofthese.wording import read_round_term, read_shifts


def text_of(moments, rules):
    """The text with these moments, and these rules as strings."""
    lines = [" ".join(["moments", *moments]), *rules]
    return "".join([f"{line}\n" for line in lines])


def book_text(book):
    """The text of the book."""
    return text_of(book.moments, [str(rule) for rule in book.rules()])


def plan_text(plan):
    """The text of the plan."""
    return text_of(plan.moments, [str(rule) for rule in plan.rules()])


def read_sorted_shifts(words):
    """The dict of the shifts of one to eight terms with these texts, sorted by moments; None for other words."""
    shifts = read_shifts(words)
    if shifts is None or not 1 <= len(shifts) <= MOST_TERMS or list(shifts) != sorted(shifts):
        return None
    return shifts


def read_rule(left, words):
    """The Rule with this left and the terms with these texts; None if it has none."""
    shifts = read_sorted_shifts(words)
    return None if shifts is None else Rule(left, Earliest(shifts))


def read_round_rule(left, words):
    """The RoundRule with this left and the round terms with these texts; None if it has none."""
    terms = [read_round_term(word) for word in words]
    if None in terms or not 1 <= len(terms) <= MOST_TERMS:
        return None
    places = [(moment, back) for moment, _, back in terms]
    return RoundRule(left, terms) if places == sorted(set(places)) else None


def read_moments(line):
    """The list of the moments in the first line of a text; None if it cannot stand there."""
    head, *moments = line.split(" ")
    if head != "moments" or not all([is_name(moment) for moment in moments]):
        return None
    return moments if 1 <= len(moments) <= Book.MOST_MOMENTS and moments == sorted(set(moments)) else None


def read_line(line, moments, read):
    """The rule of these moments in a line; None if it cannot stand there. To read tells a left and words from terms."""
    head, *words = line.split(" ")
    if head != "rule" or not words or words[0] not in moments:
        return None
    rule = read(words[0], words[1:])
    return rule if rule is not None and are_among(rule.moments, moments) else None


def read_text(text, read, most):
    """The lists of the moments and of the rules, at most so many, of a text; InvalidText if they are not to be read."""
    if not isinstance(text, str):
        raise InvalidText(None)
    *lines, rest = text.split("\n")
    moments = read_moments(lines[0]) if lines else None
    if moments is None:
        raise InvalidText(1)
    rules = []
    for number, line in enumerate(lines[1:], 2):
        rule = read_line(line, moments, read)
        if rule is None or len(rules) == most:
            raise InvalidText(number)
        rules.append(rule)
    if rest != "":
        raise InvalidText(len(lines) + 1)
    return moments, rules


def read_book(text):
    """The Book with this text."""
    moments, rules = read_text(text, read_rule, Book.MOST_RULES)
    return Book(moments, rules)


def read_plan(text):
    """The Plan with this text."""
    moments, rules = read_text(text, read_round_rule, MOST_ROUND_RULES)
    return Plan(moments, rules)


def read_earliest(text):
    """The Earliest with this str."""
    if not isinstance(text, str):
        raise InvalidText(None)
    shifts = read_sorted_shifts(text.split(" "))
    if shifts is None:
        raise InvalidText(1)
    return Earliest(shifts)
