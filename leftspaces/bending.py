"""BENT: the LAY that has in each line, from the first one on, as many words as FIT [14]."""

from leftspaces.errors import NoLay
from leftspaces.rooms import room


def bent(section, width=30):
    """BENT of a SECTION by a WIDTH."""
    high, words = section[1], section[3]
    refuse_longer(words, width)
    lay = []
    many = 0
    # Below the SPACE each word FITS a line of its own, so this ends.
    while many < len(words) or len(lay) < high:
        many = fill_line(words, many, room(section, len(lay), width))
        lay.append(many)
    return tuple(lay)


def refuse_longer(words, width):
    """Refuse words of which one is longer than the WIDTH."""
    for number, word in enumerate(words):
        if len(word) > width:
            raise NoLay(number)


def fill_line(words, first, signs):
    """The number behind the last word of a line that begins with word first, and has as many as FIT."""
    # The first word of a line has no blank ahead of it, so there is one more to take.
    left = signs + 1
    many = first
    while many < len(words) and len(words[many]) + 1 <= left:
        left -= len(words[many]) + 1
        many += 1
    return many
