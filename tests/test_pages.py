"""MOMENTS, PAGES and BASES, asked of any thing [2], [4] to [7], [70]."""

import re
import unittest

from leftspaces.kinds import is_book
from leftspaces.lexicons import is_follow, is_lexicon
from leftspaces.pages import is_base, is_moment, is_page, moment_of
from leftspaces.turns import is_turns
from tests.looks import Looks
from tests.things import ODD, SIXTY, as_lists, cut_or_longer, deep, swapped

ANN = ("ann", 3, 4, ("nn", "was", "old"))
BOOK = (30, 20, (ANN,))
LEXICON = (("ann", ("name",)), ("was", ("act", "be")))
FOLLOW = (("name", "act"),)
TURNS = ((1, ("red", "blue")), (3, ("green",)))
BASE = (BOOK, LEXICON, FOLLOW, TURNS)
LETTERS = tuple("abcdefghijklmnopqrstuvwxyz")
PAGES = (
    (4, 0, "put", ANN, "bob"), (4, 0, "put", ANN, ""), (4, 1, "out", "ann"), (4, 2, "grow", "ann", 3, 4),
    (4, 7, "guide", "ann", ("a", "e")), (4, 7, "guide", "ann", ()), (5, 0, "scrape", "ann"),
    (5, 0, "paint", "ann", "a", "red"), (6, 0, "bill", "a", 3), (6, 0, "bill", "z", 0),
)
NO_WORDS = ("", "A", "a b", "abcdefghi", "a1", "?", "-", None, 1, True, ("a",), ["a"], ())
NO_SIZES = (0, -1, -SIXTY, True, False, None, "1", (1,), [1], "a")


class IsMoment(Looks, unittest.TestCase):
    def test_bounds(self):
        for day, expected in ((0, True), (1, True), (99999, True), (100000, False), (-1, False), (SIXTY, False),
                              (-SIXTY, False), (True, False), (False, False), (None, False), ("1", False), ((), False)):
            self.told(is_moment, (day, 0), expected)
            self.told(is_moment, (day, 999), expected)
        for number, expected in ((0, True), (1, True), (999, True), (1000, False), (99999, False), (-1, False),
                                 (True, False), (False, False), (None, False), ("0", False), ([], False)):
            self.told(is_moment, (0, number), expected)
            self.told(is_moment, (99999, number), expected)

    def test_pairs(self):
        for more in (None, 1, "a"):
            for thing in cut_or_longer((4, 7), more):
                self.told(is_moment, thing, False)
        for thing in ([4, 7], "47", (4,), 4, (), ((4, 7),), PAGES[0], (4, 7, "out", "ann")):
            self.told(is_moment, thing, False)

    def test_other_things(self):
        for thing in ODD + (BASE, SIXTY, deep((4, 7), 28, tuple), (1,) * 5000):
            self.told(is_moment, thing, False)


class IsPage(Looks, unittest.TestCase):
    def test_pages(self):
        for page in PAGES:
            self.told(is_page, page, True)

    def test_moments_at_their_bounds(self):
        for page in PAGES:
            for day, number, expected in ((0, 0, True), (99999, 999, True), (100000, 0, False), (0, 1000, False),
                                          (-1, 0, False), (0, -1, False), (True, 0, False), (0, False, False)):
                self.told(is_page, (day, number) + page[2:], expected)

    def test_kinds(self):
        for kind in ("", "puts", "Put", "pu", "ann", "put ", "book", None, 1, True, ("put",), ["put"], (), [[]]):
            for page in PAGES:
                self.told(is_page, page[:2] + (kind,) + page[3:], False)
            self.told(is_page, (4, 0, kind), False)

    def test_what_stands_behind_one_kind_stands_not_behind_another(self):
        forms = {"put": {0, 1}, "out": {2, 6}, "scrape": {2, 6}, "grow": {3}, "guide": {4, 5}, "paint": {7},
                 "bill": {8, 9}}
        for kind, places in forms.items():
            for place, page in enumerate(PAGES):
                self.told(is_page, page[:2] + (kind,) + page[3:], place in places)

    def test_as_many_things_as_the_kind_has(self):
        for page in PAGES:
            for more in (None, 1, "ann", ()):
                for thing in cut_or_longer(page, more):
                    self.told(is_page, thing, False)
            self.told(is_page, page[:3], False)
            self.told(is_page, page[:2], False)

    def test_names(self):
        for page in PAGES:
            if page[2] in ("out", "grow", "guide", "scrape", "paint"):
                for name in ("a", "abcdefgh", "bob"):
                    self.told(is_page, page[:3] + (name,) + page[4:], True)
                for name in NO_WORDS:
                    self.told(is_page, page[:3] + (name,) + page[4:], False)

    def test_put(self):
        for section in (("zoe", SIXTY, SIXTY, ("x",)), ("a", 1, 1, ("abcdefgh",) * 1000)):
            self.told(is_page, (4, 0, "put", section, ""), True)
        for section in (("ann", 0, 1, ("x",)), ("ann", 1, True, ("x",)), ("ann", 1, 1, ()), ("", 1, 1, ("x",)), None,
                        "ann",
                        list(ANN), ("ann", 1, 1)):
            self.told(is_page, (4, 0, "put", section, ""), False)
        for ahead in ("", "a", "ann", "abcdefgh"):
            self.told(is_page, (4, 0, "put", ANN, ahead), True)
        for ahead in NO_WORDS[1:]:
            self.told(is_page, (4, 0, "put", ANN, ahead), False)

    def test_grow(self):
        for size in (1, 2, 9, 41, SIXTY):
            self.told(is_page, (4, 0, "grow", "ann", size, 1), True)
            self.told(is_page, (4, 0, "grow", "ann", 1, size), True)
        for size in NO_SIZES:
            self.told(is_page, (4, 0, "grow", "ann", size, 1), False)
            self.told(is_page, (4, 0, "grow", "ann", 1, size), False)

    def test_guide(self):
        for letters in ((), ("a",), ("a", "z"), LETTERS):
            self.told(is_page, (4, 0, "guide", "ann", letters), True)
        for letters in (("b", "a"), ("a", "a"), ("A",), ("ab",), ("",), (None,), (1,), "a", "", ["a"], [], None, 1,
                        True):
            self.told(is_page, (4, 0, "guide", "ann", letters), False)

    def test_paint(self):
        for colour in ("a", "abcdefgh", "red"):
            self.told(is_page, (4, 0, "paint", "ann", "z", colour), True)
        for colour in NO_WORDS:
            self.told(is_page, (4, 0, "paint", "ann", "z", colour), False)
        for letter in ("", "ab", "A", "?", "{", "`", None, 1, True, ("a",), ()):
            self.told(is_page, (4, 0, "paint", "ann", letter, "red"), False)

    def test_bill(self):
        for many in (0, 1, 99, 100, SIXTY):
            self.told(is_page, (4, 0, "bill", "z", many), True)
        for many in (-1, -SIXTY, True, False, None, "1", (1,), [0]):
            self.told(is_page, (4, 0, "bill", "z", many), False)
        for letter in ("", "ab", "A", "?", None, 1, True, ("a",)):
            self.told(is_page, (4, 0, "bill", letter, 1), False)

    def test_one_that_would_be_idle(self):
        self.told(is_page, (4, 0, "put", ANN, "ann"), True)
        self.told(is_page, (4, 0, "grow", "zoe", 10 ** 9, 10 ** 9), True)
        self.told(is_page, (4, 0, "put", ("ann", 10 ** 9, 1, ("abcdefgh",)), "zoe"), True)

    def test_other_things(self):
        for thing in ODD + (BASE, BOOK, SIXTY, list(PAGES[0]), as_lists(PAGES[4]), PAGES, (PAGES[0],), dict(FOLLOW),
                            deep(PAGES[0], 27, tuple), (4, 0) * 2500, "4 1 out ann"):
            self.told(is_page, thing, False)

    def test_any_odd_thing_in_any_place(self):
        let = 0
        for odd in ODD + (-1, 1000, 100000):
            for page in PAGES:
                for thing in swapped(page, odd):
                    self.told(is_page, thing, plain_page(thing))
                    let += plain_page(thing)
        self.assertGreater(let, 10)


def plain_count(thing, least, most=SIXTY):
    return thing.__class__ is int and least <= thing <= most


def plain_word(thing):
    return isinstance(thing, str) and re.fullmatch("[a-z]{1,8}", thing) is not None


def plain_section(thing):
    if not isinstance(thing, tuple) or len(thing) != 4 or not isinstance(thing[3], tuple) or not thing[3]:
        return False
    return plain_word(thing[0]) and all(plain_count(size, 1) for size in thing[1:3]) and all(map(plain_word, thing[3]))


def plain_letters(thing):
    if not isinstance(thing, tuple) or not all(plain_word(letter) and len(letter) == 1 for letter in thing):
        return False
    return list(thing) == sorted(set(thing))


def plain_page(thing):
    """Whether it is a PAGE, as [7] tells it."""
    if not isinstance(thing, tuple) or len(thing) < 4 or not plain_count(thing[0], 0, 99999):
        return False
    if not plain_count(thing[1], 0, 999) or not isinstance(thing[2], str):
        return False
    looks = {
        "put": (plain_section, lambda ahead: isinstance(ahead, str) and (ahead == "" or plain_word(ahead))),
        "out": (plain_word,), "scrape": (plain_word,),
        "grow": (plain_word, lambda high: plain_count(high, 1), lambda wide: plain_count(wide, 1)),
        "guide": (plain_word, plain_letters),
        "paint": (plain_word, lambda letter: plain_word(letter) and len(letter) == 1, plain_word),
        "bill": (lambda letter: plain_word(letter) and len(letter) == 1, lambda many: plain_count(many, 0)),
    }.get(thing[2], ())
    return len(looks) == len(thing) - 3 and all(look(part) for look, part in zip(looks, thing[3:]))


class MomentOf(unittest.TestCase):
    def test_the_moment(self):
        for page in PAGES:
            self.assertEqual(moment_of(page), page[:2])
            self.assertIs(moment_of(page).__class__, tuple)
        self.assertEqual(moment_of((99999, 999, "out", "ann")), (99999, 999))
        self.assertEqual(moment_of(page=(0, 0, "bill", "a", SIXTY)), (0, 0))

    def test_is_a_moment(self):
        for page in PAGES:
            self.assertIs(is_moment(moment_of(page)), True)


class IsBase(Looks, unittest.TestCase):
    def test_bases(self):
        self.told(is_base, BASE, True)
        self.told(is_base, ((1, 1, ()), (), (), ((1, ("a",)),)), True)
        self.told(is_base, ((SIXTY, SIXTY, ()), LEXICON, FOLLOW, TURNS), True)
        for place, part in enumerate(((1, 1, ()), (), (), ((1, ("a",)),))):
            self.told(is_base, BASE[:place] + (part,) + BASE[place + 1:], True)

    def test_each_part_of_its_kind(self):
        for place, parts in enumerate((
                ((30, 2, (ANN,)), (2, 20, (ANN,)), (30, 20, (ANN, ANN)), (30, 20, [ANN]), (30, True, ()), (30, 20),
                 ANN),
                (LEXICON[::-1], LEXICON + LEXICON[1:], (("a", ("p",)),), (("ab", ()),), list(LEXICON), FOLLOW),
                ((("b", "a"), ("a", "b")), FOLLOW * 2, (("name",),), LEXICON, list(FOLLOW)),
                ((), TURNS[1:], TURNS[::-1], ((1, ()),), ((True, ("red",)),), list(TURNS), ((2, ("red",)),)))):
            for part in parts + (None, 1, "a", (None,)):
                self.told(is_base, BASE[:place] + (part,) + BASE[place + 1:], False)

    def test_parts_in_their_order(self):
        for one in range(4):
            for other in range(one):
                thing = list(BASE)
                thing[one], thing[other] = thing[other], thing[one]
                self.told(is_base, tuple(thing), False)

    def test_tuples_of_four(self):
        for more in (None, (), TURNS):
            for thing in cut_or_longer(BASE, more):
                self.told(is_base, thing, False)

    def test_other_things(self):
        for thing in ODD + (list(BASE), as_lists(BASE), BOOK, (BASE,), PAGES, SIXTY, deep(BASE, 25, tuple),
                            (1,) * 5000):
            self.told(is_base, thing, False)

    def test_any_odd_thing_in_any_place(self):
        for odd in ODD + (-1, SIXTY):
            for thing in swapped(BASE, odd):
                changed = [place for place in range(4) if isinstance(thing, tuple) and len(thing) == 4
                           and repr(thing[place]) != repr(BASE[place])]
                expected = len(changed) == 1 and [is_book, is_lexicon, is_follow,
                                                  is_turns][changed[0]](thing[changed[0]])
                self.told(is_base, thing, expected)
