"""Which LETTERS a ROW's first word can begin with, each with a READING, or a BARRIER that there is none [27], [29]."""

from leftspaces.errors import NoReading
from leftspaces.lexicons import sorts_of, sorts_of_all, words_there
from leftspaces.rows import lets_letter


def can(lexicon, follow, row):
    """The CAN: each LETTER with which some READING's first WORD begins."""
    behind = sorts_behind(lexicon, row)
    letters = sorted({word[0] for word in words_there(lexicon, row, 0)})
    return tuple([letter for letter in letters if barrier(lexicon, follow, row, letter, behind)[-1] != ()])


def reading_with(lexicon, follow, row, letter):
    """A READING whose first WORD begins with a LETTER."""
    told = barrier(lexicon, follow, row, letter, sorts_behind(lexicon, row))
    if told[-1] == ():
        raise NoReading(told)
    return read_back(lexicon, follow, row, letter, told)


def sorts_behind(lexicon, row):
    """For each place above 0 the SORTS of the WORDS THERE."""
    return [sorts_of_all(lexicon, words_there(lexicon, row, k)) for k in range(1, len(row[1]))]


def barrier(lexicon, follow, row, letter, behind):
    """For each place just the SORTS that it has to BEAR: a BARRIER where the last one has none, else no LETTER's."""
    return borne(follow, sorts_of_all(lexicon, words_from(lexicon, row, letter)), behind)


def borne(follow, first, behind):
    """For each place the SORTS that can stand there behind some first ones; behind are all those of each next place."""
    told = [first]
    for sorts in behind:
        told.append(followers(follow, told[-1], sorts))
    return tuple(told)


def words_from(lexicon, row, letter):
    """The WORDS THERE at place 0 that begin with a LETTER, none where the GUIDE doesn't let it."""
    return words_made(lexicon, row, letter) if lets_letter(row[0], letter) else ()


def words_made(lexicon, row, letter):
    """The WORDS THERE at place 0 that begin with a LETTER, whatever the GUIDE."""
    return tuple([word for word in words_there(lexicon, row, 0) if word[0] == letter])


def followers(follow, ahead, sorts):
    """Those of some SORTS that are the second of a pair of FOLLOW whose first one is among those ahead."""
    seconds = [second for first, second in follow if first in ahead]
    return tuple([sort for sort in sorts if sort in seconds])


def read_back(lexicon, follow, row, letter, told):
    """A READING whose SORTS are among those told for each place, the last one of which has some."""
    # Each SORT told stands behind one told ahead of it, but not each has one behind it: so from the last one back.
    sort = told[-1][0]
    pairs = []
    for k in range(len(told) - 1, 0, -1):
        pairs.append((word_of_sort(lexicon, words_there(lexicon, row, k), sort), sort))
        sort = [first for first in told[k - 1] if (first, sort) in follow][0]
    pairs.append((word_of_sort(lexicon, words_from(lexicon, row, letter), sort), sort))
    return tuple(reversed(pairs))


def word_of_sort(lexicon, words, sort):
    """The first one of these WORDS that has a SORT."""
    return [word for word in words if sort in sorts_of(lexicon, word)][0]
