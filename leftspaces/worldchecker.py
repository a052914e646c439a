"""A checker of WORLDS [41]."""

from leftspaces.errors import NoPaper
from leftspaces.kinds import is_letter


def lets_world(cans, bill, thing):
    """True of a thing that is a WORLD of CANS and a BILL."""
    if not isinstance(thing, tuple) or len(thing) != len(cans) or not all([is_letter(letter) for letter in thing]):
        raise NoPaper("shape", -1)
    for k, letter in enumerate(thing):
        if letter not in cans[k]:
            raise NoPaper("can", k)
    for r, (letter, many) in enumerate(bill):
        if thing.count(letter) != many:
            raise NoPaper("bill", r)
    return True
