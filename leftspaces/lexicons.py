"""A LEXICON's words and their SORTS, which SORTS FOLLOW one another, and which words are THERE [5], [25], [26]."""

from leftspaces.kinds import are_rising_words, is_pair, is_word, rises
from leftspaces.patterns import fits

SHORTEST_WORD = 2


def is_lexicon(thing):
    """Whether it is a LEXICON."""
    if not isinstance(thing, tuple) or not all([is_lexicon_row(row) for row in thing]):
        return False
    return rises([row[0] for row in thing])


def is_lexicon_row(thing):
    """Whether it is a row that a LEXICON can have: a word, and its SORTS."""
    if not is_pair(thing):
        return False
    word, sorts = thing
    return is_lexicon_word(word) and are_rising_words(sorts)


def is_lexicon_word(thing):
    """Whether it is a WORD that a LEXICON can have."""
    return is_word(thing) and len(thing) >= SHORTEST_WORD


def is_follow(thing):
    """Whether it is FOLLOW."""
    if not isinstance(thing, tuple) or not all([is_sort_pair(pair) for pair in thing]):
        return False
    return rises(thing)


def is_sort_pair(thing):
    """Whether it is a pair of SORTS."""
    return is_pair(thing) and is_word(thing[0]) and is_word(thing[1])


def sorts_of(lexicon, word):
    """The SORTS of a WORD, none of one that the LEXICON hasn't."""
    return dict(lexicon).get(word, ())


def sorts_of_all(lexicon, words):
    """Each SORT that one of these WORDS of the LEXICON has, rising."""
    known = dict(lexicon)
    return tuple(sorted({sort for word in words for sort in known[word]}))


def words_for(lexicon, pattern, guide=None):
    """The WORDS that FIT a PATTERN; by a guide that isn't None those that FIT it behind a first LETTER of the guide."""
    if guide is None:
        return tuple([word for word, _ in lexicon if fits(pattern, word)])
    return tuple([word for word in words_behind(lexicon, pattern) if word[0] in guide])


def words_behind(lexicon, pattern):
    """The WORDS of which what is behind the first LETTER, whatever it is, FITS a PATTERN."""
    return tuple([word for word, _ in lexicon if fits(pattern, word[1:])])


def words_there(lexicon, row, k):
    """The WORDS THERE at place k of a ROW."""
    pattern = row[1][k]
    return words_for(lexicon, pattern) if k > 0 else words_behind(lexicon, pattern)
