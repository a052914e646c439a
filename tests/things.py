"""Things that several tests hand in, and what the document's words say of them, looked up plainly."""

from itertools import combinations_with_replacement, product

SIXTY = 10 ** 59 + 7

# No NUMBER, no text, no tuple among them that any kind could be.
ODD = (None, True, False, "", "A", "a b", "abcdefghi", "a1", "1", " ", "a ", "ab\n", "-", "~", "?", (), [], [()], ((),),
       (None,), [1], ["a"], ("A",), (True,), ((1, 2), (3,)), [[["a"], 1], None], ("ann", 3, 4))


def deep(thing, times, kind):
    """A thing, so many times within a list or a tuple."""
    for _ in range(times):
        thing = kind([thing])
    return thing


def as_lists(thing):
    """The same with a list in the place of each tuple."""
    if isinstance(thing, (tuple, list)):
        return [as_lists(part) for part in thing]
    return thing


def swapped(thing, other):
    """Everything that comes of a tuple with one of its parts, however deep, in turn being another thing."""
    yield other
    if isinstance(thing, tuple):
        for place, part in enumerate(thing):
            for new in swapped(part, other):
                yield thing[:place] + (new,) + thing[place + 1:]


def cut_or_longer(thing, more):
    """Each tuple that comes of one with a part too few, or with one too many."""
    for place in range(len(thing)):
        yield thing[:place] + thing[place + 1:]
        yield thing[:place] + (more,) + thing[place:]
    yield thing + (more,)


def fits_room(words, room):
    """Whether a line of these words FITS, as [4] tells it."""
    return not words or len(" ".join(words)) <= room


def is_lay(section, lay, width):
    """Whether numbers are a LAY, as [4] tells it."""
    _, high, wide, words = section
    ahead = 0
    for i, many in enumerate(lay):
        begin = wide if i < high else 0
        if many < ahead or many > len(words) or not fits_room(words[ahead:many], max(0, width - begin)):
            return False
        ahead = many
    if ahead != len(words) or len(lay) < high:
        return False
    return len(lay) == high or lay[-1] > (lay[-2] if len(lay) > 1 else 0)


def all_lays(section, width, most=None):
    """Each LAY there is of a small SECTION that has at most so many lines (those with void lines between, too)."""
    high, words = section[1], section[3]
    for lines in range(1, (high + len(words) + 1 if most is None else most) + 1):
        for lay in combinations_with_replacement(range(len(words) + 1), lines):
            if is_lay(section, lay, width):
                yield lay


def small_sections(most_words=4, highs=(1, 2, 3), wides=(1, 2, 3, 5)):
    """Each SECTION of few and short words."""
    for many in range(1, most_words + 1):
        for sizes in product((1, 2, 3), repeat=many):
            words = tuple("abc"[:size] for size in sizes)
            for high, wide in product(highs, wides):
                yield ("ann", high, wide, words)
