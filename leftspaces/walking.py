"""The WALK of a ROLL: its PAGES are done one by one, but those that are IDLE [7]."""

from leftspaces.changing import book_names, grown, with_section, without_section
from leftspaces.kinds import suits_width
from leftspaces.rolls import up_to


def stands_at(base, roll, moment):
    """What stands behind a MOMENT: the BOOK, the marks and what is PAINTED by their NAMES, the BILL by its LETTERS."""
    stands, _ = walked(base[0], up_to(roll, moment))
    return stands


def walked(book, roll):
    """What stands behind all PAGES of a ROLL, and those that are IDLE, each with its word."""
    stands = (book, {}, {}, {})
    idle = []
    for page in roll:
        word = idle_word(stands, page)
        if word == "":
            stands = done(stands, page)
        else:
            idle.append((page, word))
    return (stands, idle)


def idle_word(stands, page):
    """Why a PAGE can't be done, "" where it can."""
    book, _, painted, _ = stands
    kind, name = page[2], page[3]
    if kind == "bill":
        return ""
    if kind == "put":
        return put_word(book, page[3], page[4])
    if name not in book_names(book):
        return "name"
    if kind == "grow" and page[4] > book[1]:
        return "high"
    if kind == "paint" and name in painted:
        return "full"
    if kind == "scrape" and name not in painted:
        return "void"
    return ""


def put_word(book, section, ahead):
    """Why a SECTION can't be put into a BOOK, "" where it can."""
    names = book_names(book)
    if section[0] in names:
        return "twice"
    if ahead != "" and ahead not in names:
        return "ahead"
    if section[1] > book[1]:
        return "high"
    return "" if suits_width(section, book[0]) else "long"


def done(stands, page):
    """What stands behind a PAGE that can be done; what stood ahead of it stays as it was."""
    book, marks, painted, bill = stands
    kind, told, more = page[2], page[3], page[4:]
    if kind == "put":
        return (with_section(book, told, more[0]), marks, painted, bill)
    if kind == "out":
        return (without_section(book, told), without_key(marks, told), without_key(painted, told), bill)
    if kind == "grow":
        return (grown(book, told, more[0], more[1]), marks, painted, bill)
    if kind == "guide":
        # A mark of no LETTERS is a lost one.
        return (book, with_key(marks, told, more[0] or None), painted, bill)
    if kind == "scrape":
        return (book, marks, without_key(painted, told), bill)
    if kind == "paint":
        return (book, marks, with_key(painted, told, more), bill)
    return (book, marks, painted, with_key(bill, told, more[0]))


def with_key(told, key, thing):
    """What is told by keys, with this thing by this key."""
    more = dict(told)
    more[key] = thing
    return more


def without_key(told, key):
    """What is told by keys, without this key."""
    return {other: told[other] for other in told if other != key}
