"""What it costs to have a LETTER in a space where something is PAINTED: 1 where it is painted ANEW [48]."""


def paint_cost(painted, space, letter):
    """1 where a space is painted ANEW to have a LETTER, else 0."""
    return 0 if painted[space] in (None, letter) else 1


def many_anew(painted, letters):
    """How many spaces are painted ANEW in a WORLD."""
    return sum([paint_cost(painted, space, letter) for space, letter in enumerate(letters)])
