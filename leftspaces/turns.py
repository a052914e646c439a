"""Colours by turns: of the spaces of one CLASS each has the next colour [6], [60]."""

from leftspaces.kinds import are_words, is_from_one, is_pair, rises


def is_turns(thing):
    """Whether it is TURNS."""
    if not isinstance(thing, tuple) or len(thing) == 0:
        return False
    if not all([is_turn(row) for row in thing]):
        return False
    return thing[0][0] == 1 and rises([row[0] for row in thing])


def is_turn(thing):
    """Whether it is a row that TURNS can have: a least, and colours."""
    return is_pair(thing) and is_from_one(thing[0]) and are_words(thing[1])


def class_of(turns, high):
    """The CLASS of a high."""
    return max([number for number, row in enumerate(turns) if row[0] <= high])


def colours(turns, highs):
    """The COLOURS of HIGHS."""
    return colours_behind(turns, highs, [0] * len(turns))


def colours_behind(turns, highs, offset):
    """The COLOURS of HIGHS that have so many spaces of each CLASS ahead of them."""
    ahead = list(offset)
    told = []
    for high in highs:
        number = class_of(turns, high)
        ring = turns[number][1]
        told.append(ring[ahead[number] % len(ring)])
        ahead[number] += 1
    return tuple(told)
