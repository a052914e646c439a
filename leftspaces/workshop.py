"""A WORKSHOP: a BASE, a ROLL, and the deeds by which it has come to be [81], [82], [83]."""

from leftspaces.errors import NoPage, NoStep
from leftspaces.pages import is_page
from leftspaces.rolls import joined
from leftspaces.texts import LINES_APART, listed, roll_lines
from leftspaces.walking import walked

MOST_PAGES = 60


class Workshop:
    """A BASE, and a ROLL, which is changed by deeds alone."""

    def __init__(self, base):
        self._base = base
        self._deeds = []
        # The ROLL behind each count of deeds, from none on.
        self._rolls = [()]

    def tell(self, thing):
        """Take a PAGE in: whether it is new."""
        if not is_page(thing):
            raise NoPage("kind")
        return self._add("tell", thing, (thing,)) == 1

    def strike(self, thing):
        """Strike a PAGE out."""
        if not is_page(thing) or thing not in self.roll():
            raise NoPage("none")
        self._deeds.append(("strike", thing))
        self._rolls.append(tuple([page for page in self.roll() if page != thing]))

    def take_in(self, other):
        """Take in the PAGES of a WORKSHOP: how many are new."""
        if other.base() != self.base():
            raise NoPage("base")
        new = tuple([page for page in other.roll() if page not in self.roll()])
        return self._add("take", new, new)

    def back(self):
        """Take the last deed back, and tell it."""
        if self._deeds == []:
            raise NoStep(0)
        self._rolls.pop()
        return self._deeds.pop()

    def base(self):
        """The BASE."""
        return self._base

    def roll(self):
        """The ROLL."""
        return self._rolls[-1]

    def elder(self, k):
        """The ROLL behind the first k deeds."""
        if k < 0 or k >= len(self._rolls):
            raise NoStep(k)
        return self._rolls[k]

    def _add(self, word, told, pages):
        """Do a deed by which PAGES come in, if one of them is new: how many are."""
        more = joined(self.roll(), pages)
        many = len(more) - len(self.roll())
        if many > 0:
            if len(more) > MOST_PAGES:
                raise NoPage("many")
            self._deeds.append((word, told))
            self._rolls.append(more)
        return many

    def __len__(self):
        return len(self._deeds)

    def __str__(self):
        return f"{many_sections(self._base, self._rolls[-1])} {listed(roll_lines(self._rolls[-1]), LINES_APART)}"

    def __eq__(self, other):
        return isinstance(other, Workshop) and self._base == other._base and self._rolls[-1] == other._rolls[-1]

    def __ne__(self, other):
        return not self == other


def many_sections(base, roll):
    """How many SECTIONS the BOOK has behind all PAGES of a ROLL."""
    (_, _, sections), _, _, _ = walked(base[0], roll)[0]
    return len(sections)
