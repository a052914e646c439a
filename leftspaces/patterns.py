"""PATTERNS: what can be read of a word, sign by sign [5], [25]."""

from leftspaces.kinds import is_word

UNREAD = "?"


def is_pattern(thing):
    """Whether it is a PATTERN."""
    # A sign that can't be read stands for some LETTER, any.
    return isinstance(thing, str) and is_word(thing.replace(UNREAD, "a"))


def fits(pattern, word):
    """Whether a WORD FITS a PATTERN."""
    if len(word) != len(pattern):
        return False
    return all([sign in (UNREAD, letter) for sign, letter in zip(pattern, word)])
