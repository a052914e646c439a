"""Lines KEPT and ANEW, STEPS and PRICES as the document's words tell them, looked up plainly; and small growths."""

from random import Random

from tests.things import all_lays, fits_room


def line_numbers(lay, i):
    """The numbers of the words of a line; none of a line behind the last one."""
    behind = (0,) + lay
    return list(range(behind[i], behind[i + 1])) if i < len(lay) else []


def resize(section, high, wide):
    """The SECTION with a SPACE of another size."""
    name, _, _, words = section
    return name, high, wide, words


def keeps(section, lay, high, wide, i, numbers):
    """Whether line i is KEPT that has the words of these numbers, by the newer size, as [55] tells it."""
    elder = line_numbers(lay, i)
    if not elder and not numbers:
        return True
    begin = section[2] if i < section[1] else 0
    newer_begin = wide if i < high else 0
    return elder == numbers and begin == newer_begin


def lines_anew(section, lay, high, wide, newer):
    """The numbers of the lines ANEW, as [55] tells it; some lines behind both LAYS are asked, too."""
    lines = range(max(len(lay), len(newer)) + 3)
    return tuple(i for i in lines if not keeps(section, lay, high, wide, i, line_numbers(newer, i)))


def fewest(section, lay, high, wide, width, most):
    """The fewest lines ANEW of all LAYS of the newer size that have at most most lines."""
    lays = all_lays(resize(section, high, wide), width, most)
    return min(len(lines_anew(section, lay, high, wide, newer)) for newer in lays)


def dear_line(section, lay, high, wide, width, most, prices):
    """The first line of which a STEP costs less than its PRICES are apart, as [57] tells it, or None."""
    words = section[3]
    for i, (row, behind) in enumerate(zip(prices, prices[1:])):
        room = max(0, width - (wide if i < high else 0))
        for first in range(len(words) + 1):
            for last in range(first, len(words) + 1):
                if fits_room(words[first:last], room) and (i < most or first == last):
                    cost = 0 if keeps(section, lay, high, wide, i, list(range(first, last))) else 1
                    if row[first] - behind[last] > cost:
                        return i
    return None


def small_growths(many, seed):
    """So many tuples (section, lay, high, wide, width), of few and short words, always the same ones of a seed."""
    chance = Random(seed)
    for _ in range(many):
        words = tuple("abc"[:chance.randint(1, 3)] for _ in range(chance.randint(1, 4)))
        section = ("ann", chance.randint(1, 3), chance.randint(1, 4), words)
        lay = chance.choice(list(all_lays(section, chance.randint(3, 9), 5)) or [None])
        if lay is not None:
            yield section, lay, chance.randint(1, 3), chance.randint(1, 4), chance.randint(3, 9)
