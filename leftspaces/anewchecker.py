"""A checker of what is told of the fewest lines ANEW [57], [58]."""

from leftspaces.anew import anew_lines
from leftspaces.errors import NoPaper
from leftspaces.kinds import are_numbers, is_number
from leftspaces.laychecker import is_lay
from leftspaces.steps import most_lines, priced_steps, resized


def lets_anew(section, lay, high, wide, thing, width=30, most=None):
    """The number of lines ANEW that a thing tells, where its LAY has so many, and its PRICES let none have fewer."""
    other = resized(section, high, wide)
    most = most_lines(other, lay, width, most)
    if not is_anew_shape(thing):
        raise NoPaper("shape", -1)
    number, newer, prices = thing
    if not is_lay(other, newer, width) or len(newer) > most:
        raise NoPaper("lay", -1)
    check_rows(prices, max(most, len(lay)) + 1, len(section[3]) + 1)
    for i in range(len(prices) - 1):
        check_prices(prices, i, priced_steps(section, lay, other, i, width, most))
    if number != len(anew_lines(section, lay, high, wide, newer)):
        raise NoPaper("number", -1)
    if number != prices[0][0] - prices[-1][-1]:
        raise NoPaper("few", -1)
    return number


def is_anew_shape(thing):
    """Whether it is a tuple of a NUMBER, a tuple of NUMBERS and a tuple."""
    if not isinstance(thing, tuple) or len(thing) != 3:
        return False
    number, newer, prices = thing
    return is_number(number) and are_numbers(newer) and isinstance(prices, tuple)


def check_rows(prices, rows, counts):
    """Refuse what isn't so many tuples of so many NUMBERS."""
    for k, row in enumerate(prices[:rows]):
        if not are_numbers(row) or len(row) != counts:
            raise NoPaper("row", k)
    if len(prices) != rows:
        raise NoPaper("row", min(len(prices), rows))


def check_prices(prices, i, steps):
    """Refuse the prices of line i where one of its STEPS costs less than they are apart."""
    for first, last, cost in steps:
        if prices[i][first] - prices[i + 1][last] > cost:
            raise NoPaper("price", i)
