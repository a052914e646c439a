"""The SIGNS of a SECTION, where each stands in a LAY, and the LINES as texts [17], [18]."""

from leftspaces.errors import NoPlace
from leftspaces.lays import line_words
from leftspaces.rooms import begins

SPACE_SIGN = "#"


def many_signs(section):
    """How many SIGNS a SECTION has."""
    return sum([len(word) for word in section[3]])


def place_of(section, lay, k):
    """The line and the column of SIGN k."""
    if k < 0 or k >= many_signs(section):
        raise NoPlace(k)
    return sign_places(section, lay)[k]


def sign_at(section, lay, line, column):
    """The number of the SIGN that stands at a place, None where none does."""
    places = sign_places(section, lay)
    return places.index((line, column)) if (line, column) in places else None


def sign_places(section, lay):
    """The place of each SIGN, as they are numbered."""
    places = []
    for i in range(len(lay)):
        column = begins(section, i)
        for word in line_words(section, lay, i):
            places.extend([(i, column + k) for k in range(len(word))])
            # Behind each word of a line stands a blank, or the line's end.
            column += len(word) + 1
    return places


def lines_text(section, lay, width=30):
    """The LINES, one text for each line of a LAY."""
    return tuple([line_text(section, lay, i).ljust(width) for i in range(len(lay))])


def line_text(section, lay, i):
    """The text of line i, without the blanks behind its last word."""
    return SPACE_SIGN * begins(section, i) + " ".join(line_words(section, lay, i))
