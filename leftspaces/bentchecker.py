"""A checker of BENT [15]."""

from leftspaces.bending import fill_line
from leftspaces.errors import NoPaper
from leftspaces.laychecker import lets_lay
from leftspaces.lays import first_word
from leftspaces.rooms import room


def lets_bent(section, thing, width=30):
    """How many lines a thing has, where it is BENT of a SECTION by a WIDTH."""
    lines = lets_lay(section, thing, width)
    for i, many in enumerate(thing):
        if fill_line(section[3], first_word(thing, i), room(section, i, width)) > many:
            raise NoPaper("ahead", i)
    return lines
