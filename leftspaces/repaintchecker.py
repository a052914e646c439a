"""A checker of REPAINT PAPERS [48], [49]."""

from leftspaces.errors import NoPaper
from leftspaces.kinds import are_numbers, is_number, is_pair
from leftspaces.repaints import many_anew, paint_cost
from leftspaces.worldchecker import lets_world


def lets_repainted(cans, bill, painted, thing):
    """The number that a thing tells, where its WORLD has so many spaces ANEW, and its PRICES let none have fewer."""
    if not is_repaint_shape(cans, bill, thing):
        raise NoPaper("shape", -1)
    number, letters, (spaces, rows) = thing
    lets_world(cans, bill, letters)
    if number != many_anew(painted, letters):
        raise NoPaper("number", -1)
    prices = {letter: price for (letter, _), price in zip(bill, rows)}
    for k, can in enumerate(cans):
        if not all([spaces[k] + prices.get(letter, 0) <= paint_cost(painted, k, letter) for letter in can]):
            raise NoPaper("price", k)
    if number != sum(spaces) + sum([many * prices[letter] for letter, many in bill]):
        raise NoPaper("sum", -1)
    return number


def is_repaint_shape(cans, bill, thing):
    """Whether it is a tuple of a NUMBER, any thing, and PRICES, one for each space, one for each row of the BILL."""
    if not isinstance(thing, tuple) or len(thing) != 3 or not is_number(thing[0]) or not is_pair(thing[2]):
        return False
    spaces, rows = thing[2]
    return are_numbers(spaces) and are_numbers(rows) and len(spaces) == len(cans) and len(rows) == len(bill)
