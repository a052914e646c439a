"""How many of a LETTER that isn't BILLED there can be: the greatest number, and the least one [46]."""

from leftspaces.errors import NoWorld
from leftspaces.worlds import world


def most_of(cans, bill, letter):
    """The greatest number of a LETTER that WORLDS have, and a paper of it."""
    told = some_world(cans, bill)
    paper = None
    while paper is None:
        told, paper = stepped(cans, bill, letter, told, 1)
    return (told.count(letter), (told, paper))


def least_of(cans, bill, letter):
    """The least number of a LETTER that WORLDS have, and a paper of it."""
    told = some_world(cans, bill)
    paper = None
    while paper is None and letter in told:
        told, paper = stepped(cans, bill, letter, told, -1)
    return (told.count(letter), (told, paper))


def some_world(cans, bill):
    """A WORLD of CANS and a BILL."""
    word, told = world(cans, bill)
    if word == "no":
        raise NoWorld(told)
    return told


def stepped(cans, bill, letter, told, step):
    """A WORLD that has so many more of a LETTER than one told, and None; or the one told, and a NO of so many more."""
    # Between the least and the greatest number each one is that of some WORLD, so the first NO is one of the end.
    word, other = world(cans, billed_too(bill, letter, told.count(letter) + step))
    return (other, None) if word == "world" else (told, other)


def billed_too(bill, letter, many):
    """The BILL with a row more, that of a LETTER."""
    return tuple(sorted(bill + ((letter, many),)))
