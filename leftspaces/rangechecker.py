"""Checkers of the greatest and of the least number of a LETTER that isn't BILLED [46], [47]."""

from leftspaces.errors import NoPaper
from leftspaces.kinds import is_pair
from leftspaces.nochecker import lets_no
from leftspaces.ranges import billed_too
from leftspaces.worldchecker import lets_world


def lets_most(cans, bill, letter, thing):
    """How many of a LETTER a thing's WORLD has, where it is a paper that no WORLD has more."""
    number = world_number(cans, bill, letter, thing)
    lets_no(cans, billed_too(bill, letter, number + 1), thing[1])
    return number


def lets_least(cans, bill, letter, thing):
    """How many of a LETTER a thing's WORLD has, where it is a paper that no WORLD has fewer."""
    number = world_number(cans, bill, letter, thing)
    if (thing[1] is None) != (number == 0):
        raise NoPaper("none", -1)
    if number > 0:
        lets_no(cans, billed_too(bill, letter, number - 1), thing[1])
    return number


def world_number(cans, bill, letter, thing):
    """How many of a LETTER the WORLD has with which a pair begins."""
    if not is_pair(thing):
        raise NoPaper("shape", -1)
    lets_world(cans, bill, thing[0])
    return thing[0].count(letter)
