"""What shows that a book has no run ([51])."""

from anyofthese.kinds import is_integer, is_moment_of, is_position
from anyofthese.rising import endless_numbers, rows_of, settled


def refusal_of_rows(moments, rows):
    """A refusal of a book with these moments and rows as its rules, however many; None if it has a run."""
    times, holds = settled(rows, {moment: 0 for moment in moments})
    endless = {moment: holds[moment] for moment in sorted(holds) if moment not in times}
    if not endless:
        return None
    numbers = endless_numbers(rows, endless)
    return {moment: (endless[moment], numbers[moment]) for moment in endless}


def refusal_of(moments, rules):
    """A refusal of a book with these moments and rules, however many; None if it has a run."""
    return refusal_of_rows(moments, rows_of(rules))


def is_line(rules, moment, value):
    """Whether the value is a tuple (position, number) of a rule with this left and an INTEGER."""
    if not isinstance(value, tuple) or len(value) != 2:
        return False
    position, number = value
    return is_position(position, len(rules)) and rules[position].moment == moment and is_integer(number)


def is_refusal_of(moments, rules, value):
    """Whether the value is a refusal of a book with these moments and rules, however many."""
    if not isinstance(value, dict) or len(value) == 0:
        return False
    if not all([is_moment_of(key, moments) and is_line(rules, key, value[key]) for key in value]):
        return False
    return all([is_gaining(rules[value[moment][0]], value) for moment in value])


def is_gaining(rule, lines):
    """Whether the numbers of the alternatives suffice for that of the left, in lines whose keys are all moments."""
    shifts = rule.earliest.shifts()
    if not all([moment in lines for moment in shifts]):
        return False
    needed = lines[rule.moment][1] + 1
    return all([len(lines) * shifts[moment] + lines[moment][1] >= needed for moment in shifts])


def has_run(book):
    """Whether the book has a run."""
    return refusal(book) is None


def refusal(book):
    """A refusal of the book; None if it has a run."""
    return refusal_of(book.moments, book.rules())


def is_refusal(book, value):
    """Whether the value is a refusal of the book."""
    return is_refusal_of(book.moments, book.rules(), value)
