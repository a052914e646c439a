"""A checker of LAYS [4], [13]."""

from leftspaces.errors import NoPaper
from leftspaces.kinds import are_numbers
from leftspaces.rooms import line_fits


def lets_lay(section, thing, width=30):
    """How many lines a thing has, where it is a LAY of a SECTION by a WIDTH."""
    if not are_numbers(thing):
        raise NoPaper("shape", -1)
    ahead = 0
    for i, many in enumerate(thing):
        check_line(section, i, ahead, many, width)
        ahead = many
    check_end(section, thing)
    return len(thing)


def check_line(section, i, ahead, many, width):
    """Refuse line i, with the words from ahead on and below many, where no LAY has it so."""
    words = section[3]
    if many < ahead:
        raise NoPaper("falls", i)
    if many > len(words):
        raise NoPaper("words", i)
    if not line_fits(section, i, words[ahead:many], width):
        raise NoPaper("room", i)


def check_end(section, lay):
    """Refuse NUMBERS, each of a line that may stand so, that don't end as a LAY does."""
    high, words = section[1], section[3]
    lines = len(lay)
    if lines == 0 or lay[-1] < len(words):
        raise NoPaper("words", lines)
    if lines < high:
        raise NoPaper("high", lines)
    # There is a line ahead of the last one here, as lines are more than high.
    if lines > high and lay[-1] == lay[-2]:
        raise NoPaper("void", lines)


def is_lay(section, thing, width):
    """Whether any thing is a LAY of a SECTION by a WIDTH."""
    try:
        lets_lay(section, thing, width)
    except NoPaper:
        return False
    return True
