"""The texts of terms [91]."""


def term_text(moment, shift):
    """The moment and, unless it is 0, the shift with its sign."""
    return moment if shift == 0 else f"{moment}{shift:+d}"
