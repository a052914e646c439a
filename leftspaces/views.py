"""What stands behind a MOMENT, by the WALK, and which PAGES up to it are IDLE [72], [73]."""

from leftspaces.rolls import up_to
from leftspaces.walking import stands_at, walked


def book_at(base, roll, moment):
    """The BOOK that stands."""
    return stands_at(base, roll, moment)[0]


def marks_at(base, roll, moment):
    """For each SECTION its NAME and its GUIDE."""
    book, marks, _, _ = stands_at(base, roll, moment)
    return tuple([(section[0], marks.get(section[0])) for section in book[2]])


def painted_at(base, roll, moment):
    """For each SPACE that has something its NAME, and the letter and the colour that are PAINTED there."""
    book, _, painted, _ = stands_at(base, roll, moment)
    return tuple([(section[0],) + painted[section[0]] for section in book[2] if section[0] in painted])


def bill_at(base, roll, moment):
    """The BILL."""
    _, _, _, bill = stands_at(base, roll, moment)
    return tuple([(letter, bill[letter]) for letter in sorted(bill)])


def idle(base, roll, moment):
    """Each IDLE PAGE with its word."""
    _, told = walked(base[0], up_to(roll, moment))
    return told
