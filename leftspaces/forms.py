"""Of which things PAGES, and the lines of a BASE, are made, in their order [7], [79]."""

from leftspaces.kinds import (are_rising_letters, are_rising_words, are_words, is_from_nought, is_from_one, is_letter,
                              is_section, is_word)
from leftspaces.lexicons import is_lexicon_word

LAST_DAY = 99999
LAST_NUMBER = 999

# The kinds in their order; with each the form of each thing that stands behind it.
PAGE_KINDS = (
    ("put", ("section", "ahead")),
    ("out", ("word",)),
    ("grow", ("word", "size", "size")),
    ("guide", ("word", "letters")),
    ("scrape", ("word",)),
    ("paint", ("word", "letter", "word")),
    ("bill", ("letter", "many")),
)
BASE_KINDS = (
    ("book", ("size", "size")),
    ("section", ("section",)),
    ("word", ("lexicon word", "sorts")),
    ("follow", ("word", "word")),
    ("turn", ("size", "colours")),
)


def page_forms(kind):
    """The forms of the things of a PAGE of this kind; of what is no kind those of the things that each PAGE has."""
    return ("day", "number", "page kind") + dict(PAGE_KINDS).get(kind, ())


def base_forms(kind):
    """The forms of the things of a BASE's line of this kind; of what is no kind that of the one that each line has."""
    return ("base kind",) + dict(BASE_KINDS).get(kind, ())


def kind_number(kinds, kind):
    """The place of a kind in the order of these kinds."""
    return list(dict(kinds)).index(kind)


def has_form(form, thing):
    """Whether any thing is of a form."""
    if form in ("day", "number", "size", "many"):
        return has_number_form(form, thing)
    if form == "page kind":
        return thing in list(dict(PAGE_KINDS))
    if form == "base kind":
        return thing in list(dict(BASE_KINDS))
    if form == "section":
        return is_section(thing)
    if form == "ahead":
        return thing == "" or is_word(thing)
    if form == "letter":
        return is_letter(thing)
    if form == "letters":
        return are_rising_letters(thing)
    if form == "lexicon word":
        return is_lexicon_word(thing)
    if form == "sorts":
        return are_rising_words(thing)
    if form == "colours":
        return are_words(thing)
    return is_word(thing)


def has_number_form(form, thing):
    """Whether any thing is of one of the forms of NUMBERS."""
    if form == "size":
        return is_from_one(thing)
    if form == "day":
        return is_from_nought(thing) and thing <= LAST_DAY
    if form == "number":
        return is_from_nought(thing) and thing <= LAST_NUMBER
    return is_from_nought(thing)


def have_forms(forms, things):
    """Whether these things are as many as the forms, each of its own."""
    return len(things) == len(forms) and all([has_form(form, thing) for form, thing in zip(forms, things)])
