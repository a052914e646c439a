"""The kinds of [4], each asked of any thing [10]; and what several kinds are made of."""

LONGEST_WORD = 8


def is_number(thing):
    """Whether it is a NUMBER."""
    # A truth is an int to Python, but no NUMBER here.
    return isinstance(thing, int) and not isinstance(thing, bool)


def is_from_nought(thing):
    """Whether it is a NUMBER from 0 on."""
    return is_number(thing) and thing >= 0


def is_from_one(thing):
    """Whether it is a NUMBER from 1 on."""
    return is_number(thing) and thing >= 1


def are_numbers(thing):
    """Whether it is a tuple of NUMBERS, perhaps of none."""
    return isinstance(thing, tuple) and all([is_number(number) for number in thing])


def is_letter(thing):
    """Whether it is a LETTER."""
    return isinstance(thing, str) and len(thing) == 1 and "a" <= thing <= "z"


def is_word(thing):
    """Whether it is a WORD (so a NAME, a COLOUR, a SORT)."""
    if not isinstance(thing, str) or not 1 <= len(thing) <= LONGEST_WORD:
        return False
    return all([is_letter(sign) for sign in thing])


def are_words(thing):
    """Whether it is a tuple of one or more WORDS."""
    if not isinstance(thing, tuple) or len(thing) == 0:
        return False
    return all([is_word(word) for word in thing])


def are_rising_words(thing):
    """Whether it is a rising tuple of one or more WORDS."""
    return are_words(thing) and rises(thing)


def are_rising_letters(thing):
    """Whether it is a rising tuple of LETTERS, perhaps of none."""
    if not isinstance(thing, tuple) or not all([is_letter(letter) for letter in thing]):
        return False
    return rises(thing)


def rises(things):
    """Whether each of these NUMBERS, of these texts, or of these tuples of such, is more than the one ahead."""
    return all([one < other for one, other in zip(things, things[1:])])


def is_pair(thing):
    """Whether it is a tuple of two."""
    return isinstance(thing, tuple) and len(thing) == 2


def is_section(thing):
    """Whether it is a SECTION."""
    if not isinstance(thing, tuple) or len(thing) != 4:
        return False
    name, high, wide, words = thing
    return is_word(name) and is_from_one(high) and is_from_one(wide) and are_words(words)


def is_book(thing):
    """Whether it is a BOOK."""
    if not isinstance(thing, tuple) or len(thing) != 3:
        return False
    width, lines, sections = thing
    if not is_from_one(width) or not is_from_one(lines) or not isinstance(sections, tuple):
        return False
    if not all([is_section(section) for section in sections]):
        return False
    if not all([suits_sheet(section, width, lines) for section in sections]):
        return False
    return len({section[0] for section in sections}) == len(sections)


def suits_sheet(section, width, lines):
    """Whether a SECTION has no WORD longer than the WIDTH, and is no higher than a sheet of so many lines."""
    return section[1] <= lines and suits_width(section, width)


def suits_width(section, width):
    """Whether a SECTION has no WORD longer than the WIDTH."""
    return all([len(word) <= width for word in section[3]])
