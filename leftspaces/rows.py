"""ROWS: a GUIDE to the first LETTER, and what can be read behind it [5], [25]."""

from leftspaces.kinds import are_rising_letters, is_pair
from leftspaces.patterns import is_pattern


def is_row(thing):
    """Whether it is a ROW."""
    if not is_pair(thing):
        return False
    guide, patterns = thing
    return is_guide(guide) and are_patterns(patterns)


def is_guide(thing):
    """Whether it is a GUIDE."""
    return thing is None or are_rising_letters(thing)


def are_patterns(thing):
    """Whether it is a tuple of one or more PATTERNS."""
    if not isinstance(thing, tuple) or len(thing) == 0:
        return False
    return all([is_pattern(pattern) for pattern in thing])


def lets_letter(guide, letter):
    """Whether a GUIDE lets a LETTER be the first one."""
    return guide is None or letter in guide
