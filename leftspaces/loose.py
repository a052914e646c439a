"""The LOOSE ROW, the SLIPS of a WORD at its place, and how high PRICES that HOLD can be [31], [32]."""

from leftspaces.lexicons import sorts_of, sorts_of_all, words_there
from leftspaces.patterns import UNREAD
from leftspaces.rows import lets_letter


def loose_row(row):
    """The ROW that has ? in the place of each LETTER in each PATTERN, and a lost mark."""
    return (None, tuple([UNREAD * len(pattern) for pattern in row[1]]))


def all_sorts(lexicon):
    """The SORTS of a LEXICON, rising."""
    return sorts_of_all(lexicon, [word for word, _ in lexicon])


def loose_sorts(lexicon, row, k):
    """The SORTS of the WORDS THERE in the LOOSE ROW at place k, rising."""
    return sorts_of_all(lexicon, words_there(lexicon, loose_row(row), k))


def place_slips(row, k, word):
    """The SLIPS of a WORD at place k of a ROW, the one for the GUIDE, too."""
    guide, patterns = row
    if k > 0:
        return unlike_signs(patterns[k], word)
    missed = 0 if lets_letter(guide, word[0]) else 1
    return unlike_signs(patterns[0], word[1:]) + missed


def unlike_signs(pattern, word):
    """How many signs of a word are others than those of a PATTERN of as many signs, of those that can be read."""
    return len([sign for sign, letter in zip(pattern, word) if sign not in (UNREAD, letter)])


def loose_pairs(lexicon, row, k):
    """Each WORD THERE in the LOOSE ROW at place k, with each of its SORTS and its SLIPS."""
    told = []
    for word in words_there(lexicon, loose_row(row), k):
        slips = place_slips(row, k, word)
        told.extend([(word, sort, slips) for sort in sorts_of(lexicon, word)])
    return told


def highest_prices(lexicon, follow, row, k, behind):
    """How high the PRICE of each SORT can be at place k so that PRICES HOLD there, None where it may be any.

    behind are the PRICES of the next place, () of the last one.
    """
    least = {}
    for _, sort, slips in loose_pairs(lexicon, row, k):
        least[sort] = min(slips, least.get(sort, slips))
    sorts = all_sorts(lexicon)
    told = []
    for sort in sorts:
        prices = [price for second, price in zip(sorts, behind) if (sort, second) in follow]
        if sort not in least or (behind != () and prices == []):
            told.append(None)
        else:
            told.append(least[sort] + min(prices, default=0))
    return told
