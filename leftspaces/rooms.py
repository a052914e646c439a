"""Where the lines of a SECTION begin, and what room they have [4], [11]."""


def begins(section, i):
    """The column at which line i BEGINS."""
    high, wide = section[1], section[2]
    return wide if i < high else 0


def room(section, i, width=30):
    """The ROOM of line i."""
    return max(0, width - begins(section, i))


def line_fits(section, i, words, width=30):
    """Whether line i FITS with these words."""
    return len(" ".join(words)) <= room(section, i, width)
