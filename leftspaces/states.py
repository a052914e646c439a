"""What is left to do behind a MOMENT: what is unfilled, sure, wrong, stale, and a way to fill all [75], [76], [77]."""

from leftspaces.changing import place_of_name
from leftspaces.reading import can
from leftspaces.turns import colours
from leftspaces.verdicts import verdict
from leftspaces.walking import stands_at
from leftspaces.worlds import world

MOST_PATTERNS = 8


def row_of(base, roll, moment, name):
    """The ROW of the SECTION of a NAME."""
    book, marks, _, _ = stands_at(base, roll, moment)
    return section_row(marks, book[2][place_of_name(book, name)])


def section_row(marks, section):
    """The ROW of a SECTION: its GUIDE, and its first words."""
    return (marks.get(section[0]), section[3][:MOST_PATTERNS])


def unfilled(base, roll, moment):
    """The NAMES of all SECTIONS whose SPACE has nothing."""
    book, _, painted, _ = stands_at(base, roll, moment)
    return tuple([section[0] for section in void_sections(book, painted)])


def void_sections(book, painted):
    """The SECTIONS whose SPACE has nothing."""
    return [section for section in book[2] if section[0] not in painted]


def void_cans(base, stands):
    """The NAME of each SECTION whose SPACE has nothing, and its CAN."""
    _, lexicon, follow, _ = base
    book, marks, painted, _ = stands
    return [(section[0], can(lexicon, follow, section_row(marks, section)))
            for section in void_sections(book, painted)]


def sure(base, roll, moment):
    """For each UNFILLED SECTION whose CAN has one LETTER alone its NAME and this LETTER."""
    told = void_cans(base, stands_at(base, roll, moment))
    return tuple([(name, letters[0]) for name, letters in told if len(letters) == 1])


def wrong(base, roll, moment):
    """For each PAINTED SPACE whose LETTER is wrong its NAME and the word of the VERDICT."""
    _, lexicon, follow, _ = base
    book, marks, painted, _ = stands_at(base, roll, moment)
    told = []
    for section in book[2]:
        if section[0] in painted:
            letter = painted[section[0]][0]
            word = verdict(lexicon, follow, section_row(marks, section), letter)[0]
            if word in ("guide", "word", "row"):
                told.append((section[0], word))
    return tuple(told)


def stale(base, roll, moment):
    """For each SPACE PAINTED in another COLOUR than the one that is due its NAME and the due one."""
    book, _, painted, _ = stands_at(base, roll, moment)
    due = colours(base[3], tuple([section[1] for section in book[2]]))
    return tuple([(section[0], colour) for section, colour in zip(book[2], due)
                  if section[0] in painted and painted[section[0]][1] != colour])


def what_is_left(base, roll, moment):
    """What is LEFT: the UNFILLED NAMES, their CANS, and the BILL less what is PAINTED."""
    stands = stands_at(base, roll, moment)
    _, _, painted, bill = stands
    told = void_cans(base, stands)
    return (tuple([name for name, _ in told]), tuple([letters for _, letters in told]), bill_left(bill, painted))


def bill_left(bill, painted):
    """The BILL, each many less how often its LETTER is PAINTED: below 0 where the LETTER is OVER."""
    letters = [letter for letter, _ in painted.values()]
    return tuple([(letter, bill[letter] - letters.count(letter)) for letter in sorted(bill)])


def filled(base, roll, moment):
    """A pair: "over" and the LETTERS that are OVER; else "world" and a WORLD of what is LEFT, or "no" and a NO."""
    _, cans, bill = what_is_left(base, roll, moment)
    over = tuple([letter for letter, many in bill if many < 0])
    if over != ():
        return ("over", over)
    return world(cans, bill)
