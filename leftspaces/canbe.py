"""What each space can be in all WORLDS of CANS and a BILL [44], [45]."""

from leftspaces.errors import NoPlace
from leftspaces.worlds import world


def left_by(cans, bill, space, letter):
    """The CANS and the BILL that are LEFT by a space that has a LETTER, None where nothing is."""
    check_space(cans, space)
    if letter not in cans[space] or (letter, 0) in bill:
        return None
    left = tuple([(other, many - 1 if other == letter else many) for other, many in bill])
    return (cans[:space] + cans[space + 1:], left)


def check_space(cans, space):
    """Refuse a space that CANS haven't."""
    if space < 0 or space >= len(cans):
        raise NoPlace(space)


def can_be(cans, bill, space):
    """All LETTERS that a space has in some WORLD, rising."""
    check_space(cans, space)
    return tuple([letter for letter in cans[space] if world_with(cans, bill, space, letter)[0] == "world"])


def world_with(cans, bill, space, letter):
    """A pair: "world" and a WORLD in which a space has a LETTER, "no" and a NO of what is LEFT, or "never" and ()."""
    left = left_by(cans, bill, space, letter)
    if left is None:
        return ("never", ())
    word, told = world(left[0], left[1])
    if word == "no":
        return (word, told)
    return (word, told[:space] + (letter,) + told[space:])
