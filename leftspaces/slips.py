"""TRIES of a ROW, their SLIPS, and the fewest, with PRICES by which there are no fewer [31], [32], [33]."""

from leftspaces.errors import NoReading
from leftspaces.loose import all_sorts, highest_prices, loose_pairs, loose_row, loose_sorts, place_slips
from leftspaces.reading import borne, sorts_behind


def slips_of(row, tried):
    """How many SLIPS a TRY of a ROW has."""
    return sum([place_slips(row, k, word) for k, (word, _) in enumerate(tried)])


def fewest_slips(lexicon, follow, row):
    """The fewest SLIPS of any TRY, a TRY with so many, and PRICES by which there are no fewer."""
    refuse_no_try(lexicon, follow, row)
    prices = best_prices(lexicon, follow, row)
    tried = cheapest_try(lexicon, follow, row, prices)
    return (slips_of(row, tried), tried, prices)


def refuse_no_try(lexicon, follow, row):
    """Refuse a ROW that has no TRY."""
    # By all WORDS THERE it is a BARRIER of each LETTER, not of one alone.
    told = borne(follow, loose_sorts(lexicon, row, 0), sorts_behind(lexicon, loose_row(row)))
    if told[-1] == ():
        raise NoReading(told)


def best_prices(lexicon, follow, row):
    """PRICES that HOLD, each as high as it can be; those that may be any are more than any TRY has SLIPS."""
    dearest = sum([len(pattern) for pattern in row[1]]) + 2
    prices = [()]
    for k in reversed(range(len(row[1]))):
        highest = highest_prices(lexicon, follow, row, k, prices[-1])
        prices.append(tuple([dearest if price is None else price for price in highest]))
    return tuple(reversed(prices[1:]))


def cheapest_try(lexicon, follow, row, prices):
    """A TRY that has as few SLIPS as PRICES, each as high as it can be, let it have."""
    sorts = all_sorts(lexicon)
    seconds = sorts
    tried = []
    for k, told in enumerate(prices):
        # A SORT by which no TRY goes on is dearer than each by which one does.
        _, chosen = min([(price, sort) for sort, price in zip(sorts, told) if sort in seconds])
        _, word = min([(slips, word) for word, sort, slips in loose_pairs(lexicon, row, k) if sort == chosen])
        tried.append((word, chosen))
        seconds = [second for first, second in follow if first == chosen]
    return tuple(tried)
