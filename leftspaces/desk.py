"""A DESK: rows that tell a WORKSHOP what to do, or ask it [84], [85]."""

from leftspaces.errors import NoRow, NoText
from leftspaces.pagereadings import number_written, read_base, read_page
from leftspaces.pages import is_moment
from leftspaces.states import filled, stale, sure, unfilled, wrong
from leftspaces.texts import LINES_APART, listed, page_line, roll_lines, section_word
from leftspaces.views import bill_at, book_at, idle, marks_at, painted_at
from leftspaces.workshop import Workshop

# The first word of each row, and of which form is what stands behind it.
ROW_FORMS = (
    ("base", "base"), ("tell", "page"), ("strike", "page"), ("back", "nothing"), ("count", "nothing"),
    ("roll", "nothing"), ("elder", "number"), ("book", "moment"), ("marks", "moment"), ("painted", "moment"),
    ("bill", "moment"), ("idle", "moment"), ("unfilled", "moment"), ("sure", "moment"), ("wrong", "moment"),
    ("stale", "moment"), ("filled", "moment"),
)


class Desk:
    """A WORKSHOP, at first none, that rows are answered by."""

    def __init__(self):
        self._workshop = None

    def say(self, row):
        """The answer to a row."""
        words = row.split(" ")
        word = words[0]
        # A void word is none of a row's first words, and none that can stand behind one.
        thing = thing_behind(dict(ROW_FORMS).get(word, ""), words[1:])
        if thing is None:
            raise NoRow(row)
        if word == "base":
            self._workshop = Workshop(thing)
            return "ok"
        if self._workshop is None:
            raise NoRow(row)
        return answer(self._workshop, word, thing)


def thing_behind(form, words):
    """What these words of a row write, of a form; None where they write none."""
    text = " ".join(words)
    if form == "base":
        return base_written(text)
    if form == "page":
        return page_written(text)
    if form == "number":
        return number_written(text)
    if form == "moment":
        return moment_written(text)
    return () if form == "nothing" and words == [] else None


def base_written(text):
    """The BASE whose lines a text has, None where they write none."""
    try:
        return read_base(text.split(LINES_APART))
    except NoText:
        return None


def page_written(text):
    """The PAGE that a text writes, None where it writes none."""
    try:
        return read_page(text)
    except NoText:
        return None


def moment_written(text):
    """The MOMENT that a text writes, None where it writes none."""
    moment = tuple([number_written(part) for part in text.split(".")])
    return moment if is_moment(moment) else None


def answer(workshop, word, thing):
    """The answer of a WORKSHOP to a row that begins with this word, behind which stands this thing."""
    if word == "tell":
        return "new" if workshop.tell(thing) else "there"
    if word == "strike":
        workshop.strike(thing)
        return "ok"
    if word == "back":
        # A desk's WORKSHOP takes in no other one, so what is told with the word is a PAGE.
        deed, page = workshop.back()
        return f"{deed} {page_line(page)}"
    if word == "count":
        return str(len(workshop))
    if word == "roll":
        return listed(roll_lines(workshop.roll()), LINES_APART)
    if word == "elder":
        return listed(roll_lines(workshop.elder(thing)), LINES_APART)
    return moment_answer(word, workshop.base(), workshop.roll(), thing)


def moment_answer(word, base, roll, moment):
    """The answer to a row that asks what stands behind a MOMENT."""
    if word == "idle":
        return str(len(idle(base, roll, moment)))
    if word == "filled":
        told, letters = filled(base, roll, moment)
        return "world " + listed(letters, "") if told == "world" else told
    return listed(view_words(word, base, roll, moment), " ")


def view_words(word, base, roll, moment):
    """What stands behind a MOMENT, or is left to do, as a list of words."""
    if word == "book":
        return [section_word(section) for section in book_at(base, roll, moment)[2]]
    if word == "marks":
        return [name + ":" + listed(guide or (), "") for name, guide in marks_at(base, roll, moment)]
    if word == "painted":
        return [":".join(told) for told in painted_at(base, roll, moment)]
    if word == "bill":
        return [f"{letter}:{many}" for letter, many in bill_at(base, roll, moment)]
    if word == "unfilled":
        return list(unfilled(base, roll, moment))
    if word == "sure":
        return paired(sure(base, roll, moment))
    if word == "wrong":
        return paired(wrong(base, roll, moment))
    return paired(stale(base, roll, moment))


def paired(pairs):
    """Pairs of texts, each as one word."""
    return [one + ":" + other for one, other in pairs]
