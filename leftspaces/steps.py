"""What is KEPT of a LAY where the SPACE has another size, and the STEPS of the newer LAY's lines [55], [56], [57]."""

from leftspaces.bending import bent, fill_line
from leftspaces.errors import NoLay
from leftspaces.lays import first_word
from leftspaces.rooms import begins, room


def resized(section, high, wide):
    """The SECTION with a SPACE of another size."""
    return (section[0], high, wide, section[3])


def most_lines(other, lay, width, most):
    """How many lines a newer LAY may have, as [56] takes None; other is the SECTION of the newer size."""
    needed = len(bent(other, width))
    if most is None:
        return max(needed, len(lay))
    if needed > most:
        raise NoLay("most")
    return most


def line_step(lay, i):
    """The STEP that line i of a LAY is: how many words stand ahead of it, and how many behind it."""
    if i >= len(lay):
        return (lay[-1], lay[-1])
    return (first_word(lay, i), lay[i])


def is_void(step):
    """Whether a line that is this STEP has no words."""
    return step[0] == step[1]


def is_kept(section, lay, other, i, step):
    """Whether line i is KEPT, which was written by a LAY of a SECTION, and is this STEP by the newer size."""
    elder = line_step(lay, i)
    if is_void(elder) and is_void(step):
        return True
    return elder == step and begins(section, i) == begins(other, i)


def priced_steps(section, lay, other, i, width, most):
    """Each STEP of line i with what it costs: from how many words, to how many, 0 or 1."""
    words = other[3]
    signs = room(other, i, width)
    told = []
    for first in range(len(words) + 1):
        farthest = fill_line(words, first, signs) if i < most else first
        for last in range(first, farthest + 1):
            cost = 0 if is_kept(section, lay, other, i, (first, last)) else 1
            told.append((first, last, cost))
    return told
