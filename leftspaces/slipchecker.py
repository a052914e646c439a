"""A checker of the fewest SLIPS [32], [34]."""

from leftspaces.errors import NoPaper
from leftspaces.kinds import are_numbers, is_number
from leftspaces.loose import all_sorts, highest_prices, loose_row, loose_sorts
from leftspaces.readingchecker import are_text_pairs, lets_reading
from leftspaces.slips import slips_of


def lets_slips(lexicon, follow, row, thing):
    """True of a thing that has a TRY with its number of SLIPS, and PRICES by which no TRY has fewer."""
    if not is_slips_shape(thing):
        raise NoPaper("shape", -1)
    number, tried, prices = thing
    lets_reading(lexicon, follow, loose_row(row), tried)
    check_prices(lexicon, row, prices)
    check_holding(lexicon, follow, row, prices)
    if number != slips_of(row, tried):
        raise NoPaper("number", -1)
    if number != least_price(lexicon, row, prices):
        raise NoPaper("least", -1)
    return True


def is_slips_shape(thing):
    """Whether it is a tuple of a NUMBER, a tuple of pairs of texts, and a tuple of tuples of NUMBERS."""
    if not isinstance(thing, tuple) or len(thing) != 3:
        return False
    number, tried, prices = thing
    if not is_number(number) or not are_text_pairs(tried) or not isinstance(prices, tuple):
        return False
    return all([are_numbers(told) for told in prices])


def check_prices(lexicon, row, prices):
    """Refuse tuples that aren't as many as the PATTERNS, each of as many NUMBERS as there are SORTS."""
    if len(prices) != len(row[1]):
        raise NoPaper("prices", -1)
    sorts = all_sorts(lexicon)
    for k, told in enumerate(prices):
        if len(told) != len(sorts):
            raise NoPaper("prices", k)


def check_holding(lexicon, follow, row, prices):
    """Refuse PRICES that don't HOLD."""
    for k, told in enumerate(prices):
        behind = prices[k + 1] if k + 1 < len(prices) else ()
        for price, highest in zip(told, highest_prices(lexicon, follow, row, k, behind)):
            if highest is not None and price > highest:
                raise NoPaper("price", k)


def least_price(lexicon, row, prices):
    """The LEAST of PRICES."""
    there = loose_sorts(lexicon, row, 0)
    return min([price for sort, price in zip(all_sorts(lexicon), prices[0]) if sort in there])
