"""PAGES, ROLLS and BASES, read [79], [80]."""

from leftspaces.errors import NoText
from leftspaces.forms import BASE_KINDS, base_forms, has_form, kind_number, page_forms
from leftspaces.kinds import suits_sheet
from leftspaces.rolls import in_order
from leftspaces.texts import NOTHING

MOST_FIGURES = 9


def read_page(text):
    """The PAGE that a line writes."""
    return read_row(0, text)


def read_row(row, text):
    """The PAGE that the line of this row writes."""
    words = text.split(" ")
    return read_things(row, words, page_forms(words[2] if len(words) > 2 else ""))


def read_things(row, words, forms):
    """The things that the words of a line write, each of its form."""
    things = []
    for at, word in enumerate(words):
        if at == len(forms):
            raise NoText(row, at)
        thing = thing_written(forms[at], word)
        if not has_form(forms[at], thing):
            raise NoText(row, at)
        things.append(thing)
    if len(things) < len(forms):
        raise NoText(row, len(things))
    return tuple(things)


def thing_written(form, word):
    """The thing of a form that a word writes; None, or a thing of no such form, where it writes none."""
    if word == "":
        return None
    if form in ("day", "number", "size", "many"):
        return number_written(word)
    if form == "section":
        return section_written(word)
    if form == "ahead":
        return "" if word == NOTHING else word
    if form == "letters":
        return () if word == NOTHING else tuple(word)
    if form in ("sorts", "colours"):
        return tuple(word.split(","))
    return word


def number_written(word):
    """The NUMBER that a word writes, None where it writes none that is read: one of more figures isn't."""
    if not 1 <= len(word) <= MOST_FIGURES or not all(["0" <= sign <= "9" for sign in word]):
        return None
    return int(word) if word == "0" or word[0] != "0" else None


def section_written(word):
    """The SECTION that a word writes; None, or a thing that is none, where it writes none."""
    parts = word.split(":")
    if len(parts) != 4:
        return None
    name, high, wide, words = parts
    return (name, number_written(high), number_written(wide), tuple(words.split(",")))


def read_roll(lines):
    """The ROLL that lines write, in any order."""
    return in_order([read_row(row, text) for row, text in enumerate(lines)])


def read_base(lines):
    """The BASE that lines write."""
    told = {kind: [] for kind, _ in BASE_KINDS}
    for row, text in enumerate(lines):
        words = text.split(" ")
        things = read_things(row, words, base_forms(words[0]))
        if not can_stand(told, things):
            raise NoText(row, 0)
        told[things[0]].append(things)
    if told["turn"] == []:
        raise NoText(len(lines), 0)
    _, width, sheet = told["book"][0]
    sections = tuple([section for _, section in told["section"]])
    return ((width, sheet, sections), rows_told(told, "word"), rows_told(told, "follow"), rows_told(told, "turn"))


def can_stand(told, things):
    """Whether what a line of a BASE writes can stand behind what those ahead write."""
    kind = things[0]
    if any([told[later] != [] for later, _ in BASE_KINDS[kind_number(BASE_KINDS, kind) + 1:]]):
        return False
    if kind == "book" or told["book"] == []:
        return kind == "book" and told["book"] == []
    if kind == "section":
        return can_have(told, things[1])
    return rises_behind(told[kind], things)


def can_have(told, section):
    """Whether the BOOK lets a SECTION stand behind those ahead."""
    _, width, lines = told["book"][0]
    names = [ahead[0] for _, ahead in told["section"]]
    return section[0] not in names and suits_sheet(section, width, lines)


def rises_behind(ahead, things):
    """Whether a WORD, a pair or a LEAST is more than the last one ahead, or may be the first."""
    kind = things[0]
    if ahead == []:
        return kind != "turn" or things[1] == 1
    # A WORD, or a LEAST, rises by itself, whatever stands behind it.
    return ahead[-1] < things if kind == "follow" else ahead[-1][1] < things[1]


def rows_told(told, kind):
    """The rows that the lines of a kind write."""
    return tuple([things[1:] for things in told[kind]])
