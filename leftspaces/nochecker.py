"""A checker of NOs: papers that there is no WORLD [42]."""

from leftspaces.errors import NoPaper
from leftspaces.kinds import are_numbers, are_rising_letters, is_pair, rises


def lets_no(cans, bill, thing):
    """True of a thing that is a NO of CANS and a BILL."""
    many = dict(bill)
    if is_crowd_shape(thing):
        check_crowd(cans, many, thing[1])
    elif is_few_shape(thing):
        check_few(cans, many, thing[1])
    else:
        raise NoPaper("shape", -1)
    return True


def is_crowd_shape(thing):
    """Whether it is a pair of the word crowd and a rising tuple of NUMBERS."""
    return is_pair(thing) and thing[0] == "crowd" and are_numbers(thing[1]) and rises(thing[1])


def is_few_shape(thing):
    """Whether it is a pair of the word few and a rising tuple of LETTERS."""
    return is_pair(thing) and thing[0] == "few" and are_rising_letters(thing[1])


def check_crowd(cans, many, spaces):
    """Refuse spaces that aren't more than all LETTERS that they can have."""
    for k, space in enumerate(spaces):
        if space < 0 or space >= len(cans):
            raise NoPaper("space", k)
    for k, space in enumerate(spaces):
        if not all([letter in many for letter in cans[space]]):
            raise NoPaper("free", k)
    letters = sorted({letter for space in spaces for letter in cans[space]})
    if len(spaces) <= sum([many[letter] for letter in letters]):
        raise NoPaper("enough", -1)


def check_few(cans, many, letters):
    """Refuse LETTERS of which there aren't more billed than spaces that can have one of them."""
    for k, letter in enumerate(letters):
        if letter not in many:
            raise NoPaper("letter", k)
    takers = [can for can in cans if any([letter in can for letter in letters])]
    if sum([many[letter] for letter in letters]) <= len(takers):
        raise NoPaper("enough", -1)
