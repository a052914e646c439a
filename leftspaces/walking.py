"""The WALK of a ROLL: its PAGES are done one by one, but those that are IDLE [7]."""

from leftspaces.changing import book_names, grown, with_section, without_section
from leftspaces.kinds import suits_width
from leftspaces.rolls import up_to


class Walk:
    """What stands behind the PAGES that are done so far."""

    def __init__(self, book):
        self.book = book
        self.marks = {}
        self.painted = {}
        self.bill = {}


def walked(base, roll, moment):
    """What stands behind a MOMENT."""
    walk = Walk(base[0])
    for page in up_to(roll, moment):
        if idle_word(walk, page) == "":
            do_page(walk, page)
    return walk


def idle_word(walk, page):
    """Why a PAGE can't be done, "" where it can."""
    kind = page[2]
    if kind == "bill":
        return ""
    if kind == "put":
        return put_word(walk.book, page[3], page[4])
    name = page[3]
    if name not in book_names(walk.book):
        return "name"
    if kind == "grow" and page[4] > walk.book[1]:
        return "high"
    if kind == "paint" and name in walk.painted:
        return "full"
    if kind == "scrape" and name not in walk.painted:
        return "void"
    return ""


def put_word(book, section, ahead):
    """Why a SECTION can't be put into a BOOK, "" where it can."""
    names = book_names(book)
    if section[0] in names:
        return "twice"
    if ahead != "" and ahead not in names:
        return "ahead"
    if section[1] > book[1]:
        return "high"
    return "" if suits_width(section, book[0]) else "long"


def do_page(walk, page):
    """Do a PAGE that can be done."""
    kind, told = page[2], page[3:]
    if kind == "put":
        walk.book = with_section(walk.book, told[0], told[1])
    elif kind == "out":
        walk.book = without_section(walk.book, told[0])
        walk.marks.pop(told[0], None)
        walk.painted.pop(told[0], None)
    elif kind == "grow":
        walk.book = grown(walk.book, told[0], told[1], told[2])
    elif kind == "guide":
        # A mark of no LETTERS is a lost one.
        walk.marks[told[0]] = told[1] or None
    elif kind == "scrape":
        walk.painted.pop(told[0])
    elif kind == "paint":
        walk.painted[told[0]] = told[1:]
    else:
        walk.bill[told[0]] = told[1]
