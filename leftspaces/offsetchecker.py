"""A checker of OFFSETS [63]."""

from leftspaces.errors import NoPaper
from leftspaces.kinds import is_from_nought
from leftspaces.parting import added, sums


def lets_offsets(turns, stretches, thing):
    """True of a thing that is the OFFSETS of STRETCHES."""
    if not isinstance(thing, tuple) or len(thing) != len(stretches):
        raise NoPaper("shape", -1)
    for k, offset in enumerate(thing):
        if not is_offset(turns, offset):
            raise NoPaper("offset", k)
    if thing != () and thing[0] != (0,) * len(turns):
        raise NoPaper("begin", 0)
    for k in range(1, len(thing)):
        if thing[k] != added(thing[k - 1], sums(turns, stretches[k - 1])):
            raise NoPaper("sum", k)
    return True


def is_offset(turns, thing):
    """Whether it is a tuple of as many NUMBERS from 0 on as TURNS have rows."""
    return isinstance(thing, tuple) and len(thing) == len(turns) and all([is_from_nought(number) for number in thing])
