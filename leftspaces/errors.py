"""The refusals [8]: each straight under one of two bases, made of just its fields, which it keeps as they are."""


class LeftError(ValueError):
    """The base of refusals of what can't be so."""


class LackError(LookupError):
    """The base of refusals of what isn't there."""


class NoPaper(LeftError):
    """A thing is not the paper that a checker asks for: word tells why, at where."""

    def __init__(self, word, at):
        self.word = word
        self.at = at


class NoLay(LeftError):
    """There is no such LAY: word is the number of the first WORD that is too long, or a text."""

    def __init__(self, word):
        self.word = word


class NoReading(LeftError):
    """There is no READING: paper shows it."""

    def __init__(self, paper):
        self.paper = paper


class NoWorld(LeftError):
    """There is no WORLD: paper shows it."""

    def __init__(self, paper):
        self.paper = paper


class NoPage(LeftError):
    """A workshop doesn't take, or hasn't, a PAGE: word tells why."""

    def __init__(self, word):
        self.word = word


class NoText(LeftError):
    """A text writes nothing that can be read: row and word are where."""

    def __init__(self, row, word):
        self.row = row
        self.word = word


class NoRow(LeftError):
    """A desk has no answer to this row."""

    def __init__(self, row):
        self.row = row


class NoName(LackError):
    """There is no SECTION of this NAME."""

    def __init__(self, name):
        self.name = name


class NoPlace(LackError):
    """There is no such place."""

    def __init__(self, place):
        self.place = place


class NoStep(LackError):
    """There are not so many deeds."""

    def __init__(self, number):
        self.number = number
