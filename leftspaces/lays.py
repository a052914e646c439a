"""What a LAY of a SECTION has in its lines [12]."""

from leftspaces.errors import NoPlace


def line_words(section, lay, i):
    """The words of line i."""
    if i < 0 or i >= len(lay):
        raise NoPlace(i)
    return section[3][first_word(lay, i):lay[i]]


def first_word(lay, i):
    """How many words stand ahead of a line that the LAY has: the number of its first one, where it isn't void."""
    return lay[i - 1] if i > 0 else 0
