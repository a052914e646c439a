"""A BOOK's SECTIONS, SPREAD over its sheets [20]."""

from leftspaces.bending import bent


def spread(book, line=0):
    """For each SECTION its name, the sheet and the line on which it begins, and how many lines it has."""
    width, lines, sections = book
    told = []
    for section in sections:
        line = space_line(section, line, lines)
        many = len(bent(section, width))
        told.append((section[0], line // lines, line % lines, many))
        line += many
    return tuple(told)


def space_line(section, line, lines):
    """The first line, from this one on, from which the lines of a SECTION's SPACE are all on one sheet."""
    behind = (line // lines + 1) * lines
    return line if line + section[1] <= behind else behind


def sheets_of(book):
    """How many sheets a BOOK has."""
    lines = book[1]
    rows = spread(book)
    if rows == ():
        return 0
    _, sheet, line, many = rows[-1]
    return sheet + (line + many - 1) // lines + 1
