"""ROLLS: unlike PAGES as they STAND [7], [71]."""

from leftspaces.forms import PAGE_KINDS, kind_number
from leftspaces.kinds import rises
from leftspaces.pages import is_page, moment_of


def is_roll(thing):
    """Whether it is a ROLL."""
    if not isinstance(thing, tuple) or not all([is_page(page) for page in thing]):
        return False
    return rises([standing(page) for page in thing])


def standing(page):
    """What PAGES STAND by: day, number, the order of kinds, then what is left."""
    return (page[0], page[1], kind_number(PAGE_KINDS, page[2]), page[3:])


def in_order(pages):
    """The ROLL of just these PAGES."""
    unlike = {page: True for page in pages}
    return tuple(sorted(list(unlike), key=standing))


def joined(one, other):
    """The ROLL that has each PAGE that either of two ROLLS has."""
    return in_order(one + other)


def up_to(roll, moment):
    """The ROLL of the PAGES of MOMENTS no later."""
    return tuple([page for page in roll if moment_of(page) <= moment])
