"""A checker of BARRIERS [29]."""

from leftspaces.errors import NoPaper
from leftspaces.kinds import are_rising_words
from leftspaces.lexicons import sorts_of_all
from leftspaces.reading import followers, sorts_behind, words_from


def lets_barrier(lexicon, follow, row, letter, thing):
    """True of a thing that is a BARRIER of a LETTER."""
    if not are_sort_tuples(thing):
        raise NoPaper("shape", -1)
    if len(thing) != len(row[1]):
        raise NoPaper("many", -1)
    check_borne(thing, 0, sorts_of_all(lexicon, words_from(lexicon, row, letter)))
    for k, sorts in enumerate(sorts_behind(lexicon, row), start=1):
        check_borne(thing, k, followers(follow, thing[k - 1], sorts))
    if thing[-1] != ():
        raise NoPaper("last", -1)
    return True


def are_sort_tuples(thing):
    """Whether it is a tuple of rising tuples of WORDS, each perhaps of none."""
    return isinstance(thing, tuple) and all([sorts == () or are_rising_words(sorts) for sorts in thing])


def check_borne(thing, k, sorts):
    """Refuse a thing whose tuple at place k lacks one of the SORTS that it has to BEAR."""
    if not all([sort in thing[k] for sort in sorts]):
        raise NoPaper("lacks", k)
