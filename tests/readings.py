"""READINGS and BARRIERS as the document's words tell them, looked up plainly; and small things to read."""

from itertools import product
from random import Random

LETTERS = tuple("abcdefghijklmnopqrstuvwxyz")


def word_fits(pattern, word):
    """Whether a WORD FITS a PATTERN, as [5] tells it."""
    return len(word) == len(pattern) and not [k for k, sign in enumerate(pattern) if sign != "?" and sign != word[k]]


def there(lexicon, row, k):
    """The rows of the LEXICON whose WORDS are THERE at place k, as [26] tells it."""
    return [(word, sorts) for word, sorts in lexicon if word_fits(row[1][k], word[1:] if k == 0 else word)]


def is_reading(lexicon, follow, row, thing):
    """Whether pairs are a READING of a ROW, as [5] tells it."""
    guide, patterns = row
    if not isinstance(thing, tuple) or len(thing) != len(patterns):
        return False
    for k, pair in enumerate(thing):
        if not isinstance(pair, tuple) or len(pair) != 2:
            return False
        if pair[1] not in dict(there(lexicon, row, k)).get(pair[0], ()):
            return False
        if k > 0 and (thing[k - 1][1], pair[1]) not in follow:
            return False
    return guide is None or thing[0][0][0] in guide


def all_readings(lexicon, follow, row):
    """Each READING of a small ROW."""
    choices = [[(word, sort) for word, sorts in there(lexicon, row, k) for sort in sorts] for k in range(len(row[1]))]
    return [pairs for pairs in product(*choices) if is_reading(lexicon, follow, row, pairs)]


def has_to_bear(lexicon, follow, row, letter, k, ahead):
    """The SORTS that a BARRIER has to BEAR at place k, as [29] tells it, by its tuple at the place ahead."""
    rows = there(lexicon, row, k)
    if k == 0:
        let = row[0] is None or letter in row[0]
        return {sort for word, sorts in rows for sort in sorts if let and word[0] == letter}
    return {sort for _, sorts in rows for sort in sorts if [first for first in ahead if (first, sort) in follow]}


def is_barrier(lexicon, follow, row, letter, thing):
    """Whether it is a BARRIER of a LETTER, as [29] tells it."""
    if not isinstance(thing, tuple) or len(thing) != len(row[1]) or thing[-1] != ():
        return False
    for k, sorts in enumerate(thing):
        if not isinstance(sorts, tuple) or list(sorts) != sorted(set(sorts)):
            return False
        if not has_to_bear(lexicon, follow, row, letter, k, thing[k - 1] if k else ()) <= set(sorts):
            return False
    return True


def small_books(many, seed):
    """So many triples of a LEXICON, FOLLOW and a ROW, all of few words and letters, always the same ones of a seed."""
    chance = Random(seed)
    words = sorted("".join(letters) for size in (2, 3) for letters in product("abc", repeat=size))
    for _ in range(many):
        sorts = ("p", "q", "r")[:chance.randint(1, 3)]
        lexicon = tuple((word, some_of(chance, sorts, 1)) for word in some_of(chance, words, 0, 20))
        follow = some_of(chance, tuple(product(sorts, repeat=2)), 0, 7)
        guide = chance.choice((None, None, (), some_of(chance, ("a", "b", "c"), 1)))
        first = "".join(chance.choice("ab????") for _ in range(chance.randint(1, 2)))
        others = ["".join(chance.choice("abc??????") for _ in range(chance.randint(2, 3)))
                  for _ in range(chance.randint(0, 3))]
        yield lexicon, follow, (guide, (first, *others))


def some_of(chance, things, least, most=99):
    """Some of these things, in their order."""
    many = chance.randint(least, min(most, len(things)))
    return tuple(sorted(chance.sample(list(things), many)))
