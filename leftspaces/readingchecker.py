"""A checker of READINGS [28]."""

from leftspaces.errors import NoPaper
from leftspaces.kinds import is_pair
from leftspaces.lexicons import sorts_of, words_there
from leftspaces.rows import lets_letter


def lets_reading(lexicon, follow, row, thing):
    """True of a thing that is a READING of a ROW."""
    if not are_text_pairs(thing):
        raise NoPaper("shape", -1)
    if len(thing) != len(row[1]):
        raise NoPaper("many", -1)
    for k, (word, sort) in enumerate(thing):
        if word not in words_there(lexicon, row, k):
            raise NoPaper("word", k)
        if k == 0 and not lets_letter(row[0], word[0]):
            raise NoPaper("guide", 0)
        if sort not in sorts_of(lexicon, word):
            raise NoPaper("sort", k)
        if k > 0 and (thing[k - 1][1], sort) not in follow:
            raise NoPaper("follow", k)
    return True


def are_text_pairs(thing):
    """Whether it is a tuple of pairs of texts, perhaps of none."""
    return isinstance(thing, tuple) and all([is_text_pair(pair) for pair in thing])


def is_text_pair(thing):
    """Whether it is a pair of texts."""
    return is_pair(thing) and isinstance(thing[0], str) and isinstance(thing[1], str)
