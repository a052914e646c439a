"""What is left to do behind a MOMENT: what is unfilled, sure, wrong, stale, and a way to fill all [75], [76], [77]."""

from leftspaces.changing import place_of_name
from leftspaces.reading import can
from leftspaces.turns import colours
from leftspaces.verdicts import verdict
from leftspaces.walking import walked
from leftspaces.worlds import world

MOST_PATTERNS = 8


def row_of(base, roll, moment, name):
    """The ROW of the SECTION of a NAME."""
    walk = walked(base, roll, moment)
    return section_row(walk, walk.book[2][place_of_name(walk.book, name)])


def section_row(walk, section):
    """The ROW of a SECTION: its GUIDE, and its first words."""
    return (walk.marks.get(section[0]), section[3][:MOST_PATTERNS])


def unfilled(base, roll, moment):
    """The NAMES of all SECTIONS whose SPACE has nothing."""
    return tuple([section[0] for section in void_sections(walked(base, roll, moment))])


def void_sections(walk):
    """The SECTIONS whose SPACE has nothing."""
    return [section for section in walk.book[2] if section[0] not in walk.painted]


def void_cans(base, walk):
    """The NAME of each SECTION whose SPACE has nothing, and its CAN."""
    _, lexicon, follow, _ = base
    return [(section[0], can(lexicon, follow, section_row(walk, section))) for section in void_sections(walk)]


def sure(base, roll, moment):
    """For each UNFILLED SECTION whose CAN has one LETTER alone its NAME and this LETTER."""
    told = void_cans(base, walked(base, roll, moment))
    return tuple([(name, letters[0]) for name, letters in told if len(letters) == 1])


def wrong(base, roll, moment):
    """For each PAINTED SPACE whose LETTER is wrong its NAME and the word of the VERDICT."""
    _, lexicon, follow, _ = base
    walk = walked(base, roll, moment)
    told = []
    for section in walk.book[2]:
        if section[0] in walk.painted:
            letter = walk.painted[section[0]][0]
            word = verdict(lexicon, follow, section_row(walk, section), letter)[0]
            if word in ("guide", "word", "row"):
                told.append((section[0], word))
    return tuple(told)


def stale(base, roll, moment):
    """For each SPACE PAINTED in another COLOUR than the one that is due its NAME and the due one."""
    walk = walked(base, roll, moment)
    sections = walk.book[2]
    due = colours(base[3], tuple([section[1] for section in sections]))
    return tuple([(section[0], colour) for section, colour in zip(sections, due)
                  if section[0] in walk.painted and walk.painted[section[0]][1] != colour])


def what_is_left(base, roll, moment):
    """What is LEFT: the UNFILLED NAMES, their CANS, and the BILL less what is PAINTED."""
    walk = walked(base, roll, moment)
    told = void_cans(base, walk)
    return (tuple([name for name, _ in told]), tuple([letters for _, letters in told]), bill_left(walk))


def bill_left(walk):
    """The BILL, each many less how often its LETTER is PAINTED: below 0 where the LETTER is OVER."""
    painted = [letter for letter, _ in walk.painted.values()]
    return tuple([(letter, walk.bill[letter] - painted.count(letter)) for letter in sorted(walk.bill)])


def filled(base, roll, moment):
    """A pair: "over" and the LETTERS that are OVER; else "world" and a WORLD of what is LEFT, or "no" and a NO."""
    _, cans, bill = what_is_left(base, roll, moment)
    over = tuple([letter for letter, many in bill if many < 0])
    if over != ():
        return ("over", over)
    return world(cans, bill)
