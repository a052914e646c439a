"""BOOKS of which one SECTION is otherwise, and from which NAME on two BOOKS are ALIKE [21], [22]."""

from leftspaces.errors import NoName
from leftspaces.spreading import spread
from leftspaces.steps import resized


def with_section(book, section, ahead):
    """The BOOK with a SECTION more, put in ahead of the one of a NAME, or behind all where that is ""."""
    width, lines, sections = book
    place = len(sections) if ahead == "" else place_of_name(book, ahead)
    return (width, lines, sections[:place] + (section,) + sections[place:])


def without_section(book, name):
    """The BOOK without the SECTION of a NAME."""
    width, lines, sections = book
    place = place_of_name(book, name)
    return (width, lines, sections[:place] + sections[place + 1:])


def grown(book, name, high, wide):
    """The BOOK in which the SECTION of a NAME has a SPACE of another size."""
    width, lines, sections = book
    place = place_of_name(book, name)
    return (width, lines, sections[:place] + (resized(sections[place], high, wide),) + sections[place + 1:])


def place_of_name(book, name):
    """At which place, from 0, the SECTION of a NAME stands in a BOOK."""
    names = book_names(book)
    if name not in names:
        raise NoName(name)
    return names.index(name)


def book_names(book):
    """The NAMES of the SECTIONS of a BOOK, in order."""
    return tuple([section[0] for section in book[2]])


def alike_from(one, other):
    """The first NAME from which on two BOOKS are ALIKE, None where there is none."""
    name = None
    for row, like in zip(spread(one)[::-1], spread(other)[::-1]):
        # Only where it begins is asked, not how many lines it has.
        if row[:3] != like[:3]:
            return name
        name = row[0]
    return name
