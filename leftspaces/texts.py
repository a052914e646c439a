"""PAGES, ROLLS and BASES, written [79]; and lists of what is written [85]."""

from leftspaces.forms import base_forms, page_forms

NOTHING = "-"
LINES_APART = " / "


def section_word(section):
    """A SECTION as one word."""
    name, high, wide, words = section
    return ":".join([name, str(high), str(wide), ",".join(words)])


def page_line(page):
    """A PAGE as a line."""
    return written(page_forms(page[2]), page)


def written(forms, things):
    """Things, each of its form, as a line."""
    return " ".join([thing_word(form, thing) for form, thing in zip(forms, things)])


def thing_word(form, thing):
    """A thing of a form as one word."""
    if form == "section":
        return section_word(thing)
    if form == "ahead":
        return thing or NOTHING
    if form == "letters":
        return listed(thing, "")
    if form in ("sorts", "colours"):
        return ",".join(thing)
    return str(thing)


def roll_lines(roll):
    """A ROLL as a list of lines."""
    return [page_line(page) for page in roll]


def base_lines(base):
    """A BASE as a list of lines."""
    (width, lines, sections), lexicon, follow, turns = base
    told = [("book", width, lines)]
    told.extend([("section", section) for section in sections])
    told.extend([("word", word, sorts) for word, sorts in lexicon])
    told.extend([("follow", first, second) for first, second in follow])
    told.extend([("turn", least, row_colours) for least, row_colours in turns])
    return [written(base_forms(things[0]), things) for things in told]


def listed(words, between):
    """Words, or lines, as one text, parted by what stands between."""
    return between.join(words) or NOTHING
