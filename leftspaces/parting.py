"""A book's spaces, parted among painters: how many of each CLASS stand ahead, and what comes of it [61], [62]."""

from leftspaces.turns import class_of, colours_behind


def sums(turns, highs):
    """The SUMS of HIGHS: how many spaces there are of each CLASS."""
    counts = [0] * len(turns)
    for high in highs:
        counts[class_of(turns, high)] += 1
    return tuple(counts)


def offsets(turns, stretches):
    """The OFFSETS of STRETCHES: for each one the SUMS of all those ahead, added."""
    ahead = (0,) * len(turns)
    told = []
    for highs in stretches:
        told.append(ahead)
        ahead = added(ahead, sums(turns, highs))
    return tuple(told)


def added(one, other):
    """Two tuples of as many NUMBERS, added place by place."""
    return tuple([a + b for a, b in zip(one, other)])


def stretch_colours(turns, highs, offset):
    """The COLOURS of HIGHS behind an OFFSET."""
    return colours_behind(turns, highs, offset)
