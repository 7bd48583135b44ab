"""The texts of numbers and terms, and how they are read ([91], [93])."""

from anyofthese.kinds import MOST_BACK, is_name


def term_text(moment, shift):
    """The moment and, unless it is 0, the shift with its sign."""
    return moment if shift == 0 else f"{moment}{shift:+d}"


def round_term_text(moment, shift, back):
    """The text of the term and, unless it is 0, the back."""
    return term_text(moment, shift) if back == 0 else f"{term_text(moment, shift)}@{back}"


def read_count(text):
    """The COUNT with just this text; None for any other text."""
    if text == "" or not all(["0" <= digit <= "9" for digit in text]):
        return None
    return int(text) if text == "0" or text[0] != "0" else None


def read_integer(text):
    """The INTEGER with just this text; None for any other text."""
    if text[:1] != "-":
        return read_count(text)
    size = read_count(text[1:])
    return -size if size else None


def read_shift(text):
    """The shift that stands as this text behind a moment; None for any other text."""
    if text == "":
        return 0
    size = read_count(text[1:])
    if text[0] not in ("+", "-") or not size:
        return None
    return size if text[0] == "+" else -size


def read_term(word):
    """The tuple (moment, shift) of the term with this text; None for any other text."""
    letters = 0
    while letters < len(word) and "a" <= word[letters] <= "z":
        letters = letters + 1
    shift = read_shift(word[letters:])
    return None if shift is None or not is_name(word[:letters]) else (word[:letters], shift)


def read_round_term(word):
    """The tuple (moment, shift, back) of the round term with this text; None for any other text."""
    head, sign, tail = word.partition("@")
    term = read_term(head)
    back = read_count(tail) if sign else 0
    if term is None or back is None or back > MOST_BACK or sign and back == 0:
        return None
    return (*term, back)


def read_shifts(words):
    """The dict of the shifts of terms with these texts, in their sequence; None unless all are terms, of different
    moments."""
    terms = [read_term(word) for word in words]
    if None in terms:
        return None
    shifts = {moment: shift for moment, shift in terms}
    return shifts if len(shifts) == len(terms) else None
