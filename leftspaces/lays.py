"""What a LAY of a SECTION has in its lines [12]."""

from leftspaces.errors import NoPlace


def line_words(section, lay, i):
    """The words of line i."""
    if i < 0 or i >= len(lay):
        raise NoPlace(i)
    first = lay[i - 1] if i > 0 else 0
    return section[3][first:lay[i]]
