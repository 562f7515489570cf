"""Numerals: numbers and letters as they are written in the lines of texts and of commands."""

from unitlimits.bounds import MAX_LETTERS
from unitlimits.words import are_letters

# No more letters that cling are written beside one another.
MOST_CLINGING = 9


def natural(text, digits):
    """The number from 0 on that a text is, with so many digits at most and without leading zeros, or None."""
    if not 1 <= len(text) <= digits or not text.isascii() or not text.isdigit():
        return None
    if text[0] == "0" and text != "0":
        return None
    return int(text)


def integer(text, digits):
    """The same for all integers, with a "-" ahead of those below 0."""
    if not text.startswith("-"):
        return natural(text, digits)
    number = natural(text[1:], digits)
    return None if number is None or number == 0 else -number


def clinging(text):
    """The letters that a text tells: some of the four letters, or none where it is "-"; None for another text."""
    if text == "-":
        return ""
    return text if 1 <= len(text) <= MOST_CLINGING and are_letters(text, MAX_LETTERS) else None
