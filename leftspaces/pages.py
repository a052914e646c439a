"""MOMENTS, PAGES and BASES, asked of any thing [7], [70]."""

from leftspaces.forms import have_forms, page_forms
from leftspaces.kinds import is_book, is_pair
from leftspaces.lexicons import is_follow, is_lexicon
from leftspaces.turns import is_turns


def is_moment(thing):
    """Whether it is a MOMENT."""
    return is_pair(thing) and have_forms(("day", "number"), thing)


def is_page(thing):
    """Whether it is a PAGE."""
    if not isinstance(thing, tuple) or len(thing) < 3 or not isinstance(thing[2], str):
        return False
    return have_forms(page_forms(thing[2]), thing)


def is_base(thing):
    """Whether it is a BASE."""
    if not isinstance(thing, tuple) or len(thing) != 4:
        return False
    book, lexicon, follow, turns = thing
    return is_book(book) and is_lexicon(lexicon) and is_follow(follow) and is_turns(turns)


def moment_of(page):
    """The MOMENT of a PAGE."""
    return page[:2]
