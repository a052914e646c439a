"""Which spaces are TURNED to another COLOUR where a book is otherwise, and how far each is SHIFTED [65], [66]."""

from leftspaces.errors import NoName
from leftspaces.parting import sums
from leftspaces.turns import class_of, colours


def turned(turns, one, other):
    """The NAMES that stand in both and have another COLOUR in the other one."""
    were, are = name_colours(turns, one), name_colours(turns, other)
    return tuple([name for name, _ in other if name in were and were[name] != are[name]])


def name_colours(turns, pairs):
    """The COLOUR of each NAME."""
    told = colours(turns, tuple([high for _, high in pairs]))
    return {name: colour for (name, _), colour in zip(pairs, told)}


def shift(turns, one, other, name):
    """How many more spaces of the CLASS of a NAME, by the other one, stand ahead of it there."""
    if name not in dict(one) or name not in dict(other):
        raise NoName(name)
    number = class_of(turns, dict(other)[name])
    return sums(turns, highs_ahead(other, name))[number] - sums(turns, highs_ahead(one, name))[number]


def highs_ahead(pairs, name):
    """The highs of all that stand ahead of a NAME."""
    names = [other for other, _ in pairs]
    return tuple([high for _, high in pairs[:names.index(name)]])
