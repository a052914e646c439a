"""TRIES, their SLIPS, PRICES that HOLD, and papers of the fewest, as the document's words tell them, looked up plainly."""

from tests.readings import all_readings, small_books, there

MOST_CHOICES = 3000


def loosened(row):
    """The LOOSE ROW, as [31] tells it."""
    return None, tuple("?" * len(pattern) for pattern in row[1])


def word_slips(row, k, word):
    """The SLIPS of a WORD at place k, the one for the GUIDE, too, as [31] tells it."""
    guide, patterns = row
    signs = word[1:] if k == 0 else word
    missed = k == 0 and guide is not None and word[0] not in guide
    return sum(sign not in ("?", letter) for sign, letter in zip(patterns[k], signs)) + missed


def count_slips(row, tried):
    """The SLIPS of a TRY."""
    return sum(word_slips(row, k, word) for k, (word, _) in enumerate(tried))


def all_tries(lexicon, follow, row):
    """Each TRY of a small ROW."""
    return all_readings(lexicon, follow, loosened(row))


def small_tries(many, seed):
    """LEXICONS, FOLLOWS and ROWS of so many small ones that don't have too many TRIES to look at."""
    for lexicon, follow, row in small_books(many, seed):
        choices = 1
        for k in range(len(row[1])):
            choices *= sum(len(sorts) for _, sorts in there(lexicon, loosened(row), k))
        if choices <= MOST_CHOICES:
            yield lexicon, follow, row


def sorts_in(lexicon):
    """The SORTS in the rows of a LEXICON, rising."""
    return sorted({sort for _, sorts in lexicon for sort in sorts})


def place_off(lexicon, follow, row, prices):
    """The first place where PRICES don't HOLD, as [32] tells it, or None."""
    known = sorts_in(lexicon)
    for k, told in enumerate(prices):
        price = dict(zip(known, told))
        for word, sorts in there(lexicon, loosened(row), k):
            for sort in sorts:
                most = [word_slips(row, k, word)]
                if k + 1 < len(prices):
                    behind = dict(zip(known, prices[k + 1]))
                    most = [most[0] + behind[second] for first, second in follow if first == sort and second in behind]
                if [high for high in most if price[sort] > high]:
                    return k
    return None


def least_of_prices(lexicon, row, prices):
    """The LEAST of PRICES, as [32] tells it."""
    sorts = {sort for _, sorts in there(lexicon, loosened(row), 0) for sort in sorts}
    return min(price for sort, price in zip(sorts_in(lexicon), prices[0]) if sort in sorts)


def why_no_slips(lexicon, follow, row, thing):
    """Why a tuple (number, tuple of pairs of texts, tuple of tuples of numbers) is refused by [34], or None."""
    number, tried, prices = thing
    if len(tried) != len(row[1]):
        return "many", -1
    for k, (word, sort) in enumerate(tried):
        words = dict(there(lexicon, loosened(row), k))
        whys = [("word", word not in words), ("sort", sort not in words.get(word, ())),
                ("follow", k > 0 and (tried[k - 1][1], sort) not in follow)]
        for why, so in whys:
            if so:
                return why, k
    if len(prices) != len(row[1]):
        return "prices", -1
    for k, told in enumerate(prices):
        if len(told) != len(sorts_in(lexicon)):
            return "prices", k
    off = place_off(lexicon, follow, row, prices)
    if off is not None:
        return "price", off
    if number != count_slips(row, tried):
        return "number", -1
    return ("least", -1) if number != least_of_prices(lexicon, row, prices) else None
