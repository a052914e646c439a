"""BOOKS with a SECTION more, without one, with one grown; and from which NAME on two are ALIKE [21], [22]."""

import copy
import unittest
from itertools import product
from random import Random

from leftspaces.changing import alike_from, grown, with_section, without_section
from leftspaces.errors import NoName
from leftspaces.kinds import is_book
from leftspaces.spreading import spread
from tests.refusals import Refusals
from tests.things import SIXTY

ANN = ("ann", 2, 4, ("nn", "was"))
BOB = ("bob", 1, 2, ("ob",))
CAT = ("cat", 3, 1, ("at", "is"))
DAN = ("dan", 1, 1, ("an",))
BOOK = (9, 5, (ANN, BOB, CAT))
VOID = (9, 5, ())


class Changes(Refusals):
    """What a test of BOOKS that are otherwise asks."""

    def told(self, expected, deed, *args):
        before = copy.deepcopy(args)
        told = deed(*args)
        self.assertEqual(repr(told), repr(expected))
        self.assertEqual(repr(args), repr(before))
        self.assertTrue(is_book(told))

    def lacks(self, name, deed, *args):
        before = copy.deepcopy(args)
        self.check_refused(NoName, [name], deed, *args)
        self.assertEqual(repr(args), repr(before))


class WithSection(Changes, unittest.TestCase):
    def test_ahead_of_a_name(self):
        self.told((9, 5, (DAN, ANN, BOB, CAT)), with_section, BOOK, DAN, "ann")
        self.told((9, 5, (ANN, DAN, BOB, CAT)), with_section, BOOK, DAN, "bob")
        self.told((9, 5, (ANN, BOB, DAN, CAT)), with_section, BOOK, DAN, "cat")

    def test_behind_all(self):
        self.told((9, 5, (ANN, BOB, CAT, DAN)), with_section, BOOK, DAN, "")
        self.told((9, 5, (DAN,)), with_section, VOID, DAN, "")

    def test_as_high_as_a_sheet_and_as_long_as_the_width(self):
        section = ("dan", 5, 99, ("abcdefgh", "a"))
        self.told((8, 5, (ANN, section)), with_section, (8, 5, (ANN,)), section, "")

    def test_no_section_of_the_name(self):
        for name in ("dan", "an", "annn", "zoe"):
            self.lacks(name, with_section, BOOK, DAN, name)
        self.lacks("ann", with_section, VOID, DAN, "ann")
        self.lacks("dan", with_section, VOID, DAN, "dan")

    def test_by_names(self):
        self.assertEqual(with_section(book=VOID, section=DAN, ahead=""), (9, 5, (DAN,)))
        self.check_refused(NoName, ["zoe"], with_section, ahead="zoe", section=DAN, book=BOOK)


class WithoutSection(Changes, unittest.TestCase):
    def test_without(self):
        self.told((9, 5, (BOB, CAT)), without_section, BOOK, "ann")
        self.told((9, 5, (ANN, CAT)), without_section, BOOK, "bob")
        self.told((9, 5, (ANN, BOB)), without_section, BOOK, "cat")
        self.told((9, 5, ()), without_section, (9, 5, (ANN,)), "ann")

    def test_no_section_of_the_name(self):
        for name in ("dan", "an", "a", "zoe"):
            self.lacks(name, without_section, BOOK, name)
        self.lacks("ann", without_section, VOID, "ann")

    def test_what_is_put_in_and_taken_out(self):
        for ahead in ("ann", "bob", "cat", ""):
            self.told(BOOK, without_section, with_section(BOOK, DAN, ahead), "dan")

    def test_by_names(self):
        self.assertEqual(without_section(name="bob", book=BOOK), (9, 5, (ANN, CAT)))


class Grown(Changes, unittest.TestCase):
    def test_of_another_size(self):
        self.told((9, 5, (("ann", 5, 7, ("nn", "was")), BOB, CAT)), grown, BOOK, "ann", 5, 7)
        self.told((9, 5, (ANN, ("bob", 3, 1, ("ob",)), CAT)), grown, BOOK, "bob", 3, 1)
        self.told((9, 5, (ANN, BOB, ("cat", 1, SIXTY, ("at", "is")))), grown, BOOK, "cat", 1, SIXTY)

    def test_as_it_was(self):
        self.told(BOOK, grown, BOOK, "cat", 3, 1)

    def test_high_goes_ahead_of_wide(self):
        self.told((9, 5, (ANN, ("bob", 2, 3, ("ob",)), CAT)), grown, BOOK, "bob", 2, 3)

    def test_no_section_of_the_name(self):
        for name in ("dan", "anna", "zoe"):
            self.lacks(name, grown, BOOK, name, 1, 1)
        self.lacks("bob", grown, VOID, "bob", 1, 1)

    def test_by_names(self):
        self.assertEqual(grown(book=BOOK, wide=4, high=2, name="ann"), BOOK)


def plain_alike(one, other):
    """The first NAME from which on two BOOKS are ALIKE, as [22] tells it, by each NAME in turn."""
    rows, others = [[row[:3] for row in spread(book)] for book in (one, other)]
    for k, (name, _, _) in enumerate(rows):
        places = [at for at, row in enumerate(others) if row[0] == name]
        if places and rows[k:] == others[places[0]:]:
            return name
    return None


class AlikeFrom(unittest.TestCase):
    def told(self, one, other, expected):
        self.assertEqual(alike_from(one, other), expected)
        self.assertEqual(alike_from(other, one), expected)

    def test_the_same_from_the_first_name_on(self):
        self.told(BOOK, BOOK, "ann")
        self.told((9, 5, (DAN,)), (9, 5, (DAN,)), "dan")

    def test_from_none(self):
        self.told(BOOK, (9, 5, (ANN, BOB)), None)
        self.told(BOOK, (9, 5, (DAN, BOB, CAT, ANN)), None)
        self.told(BOOK, (9, 5, (ANN, BOB, DAN)), None)

    def test_of_no_sections(self):
        self.told(VOID, VOID, None)
        self.told(BOOK, VOID, None)

    def test_from_one_behind_on(self):
        # ann has two lines, bob one, so cat begins on the second sheet, however the first one is filled.
        self.told(BOOK, (9, 5, (BOB, ANN, CAT)), "cat")
        self.told((9, 3, (ANN, BOB, CAT)), (9, 3, (ANN, DAN, CAT)), "cat")
        self.told((9, 3, (ANN, BOB, CAT)), (9, 3, (DAN, ANN, CAT)), "cat")

    def test_a_sheet_end_takes_up_what_has_grown(self):
        book = (9, 5, (ANN, BOB, CAT, DAN))
        self.assertEqual([row[1:3] for row in spread(book)], [(0, 0), (0, 2), (1, 0), (1, 3)])
        self.told(book, grown(book, "bob", 2, 2), "ann")
        self.told(book, grown(book, "bob", 3, 2), "ann")
        self.told(book, grown(book, "ann", 3, 4), "cat")
        self.told(book, grown(book, "ann", 5, 4), None)

    def test_the_last_one_grown_begins_as_it_did(self):
        self.told(BOOK, grown(BOOK, "cat", 4, 1), "ann")
        book = (9, 9, (ANN, BOB))
        self.told(book, grown(book, "bob", 7, 2), "ann")
        self.told(book, grown(book, "bob", 8, 2), None)

    def test_the_same_line_on_another_sheet(self):
        one = (9, 3, (ANN, BOB))
        other = (9, 3, (("ann", 2, 9, ("nn", "was", "nn", "was", "abcdefgh")), BOB))
        self.assertEqual(spread(one)[1], ("bob", 0, 2, 1))
        self.assertEqual(spread(other)[1], ("bob", 1, 2, 1))
        self.told(one, other, None)

    def test_another_line_on_the_same_sheet(self):
        self.told((9, 9, (ANN, BOB)), (9, 9, (DAN, BOB)), None)

    def test_of_other_sections_of_the_same_names(self):
        one = (9, 9, (ANN, BOB))
        self.told(one, (9, 9, (("ann", 2, 1, ("a",)), ("bob", 1, 3, ("zz", "y")))), "ann")

    def test_by_names(self):
        self.assertEqual(alike_from(one=BOOK, other=BOOK), "ann")
        self.assertEqual(alike_from(other=VOID, one=BOOK), None)


def small_books(many, seed):
    """So many BOOKS of few SECTIONS on small sheets, always the same ones of a seed."""
    chance = Random(seed)
    for _ in range(many):
        lines = chance.randint(2, 5)
        names = chance.sample("abcde", chance.randint(0, 5))
        yield (5, lines, tuple((name, chance.randint(1, lines), chance.randint(1, 6),
                                ("x",) * chance.randint(1, 6)) for name in names))


class Small(unittest.TestCase):
    def test_alike_as_the_words_tell_it(self):
        told = set()
        for one, other in product(small_books(40, 220), small_books(60, 221)):
            self.assertEqual(alike_from(one, other), plain_alike(one, other), (one, other))
            told.add(alike_from(one, other))
        self.assertEqual(told, set("abcde") | {None})

    def test_what_is_ahead_of_a_change_begins_as_it_did(self):
        for book in small_books(200, 222):
            for k, section in enumerate(book[2]):
                for other in (grown(book, section[0], 1 + k % 2, 3), without_section(book, section[0]),
                              with_section(book, ("zoe", 2, 1, ("x", "y")), section[0])):
                    self.assertEqual([row[:3] for row in spread(other)[:k]], [row[:3] for row in spread(book)[:k]])
                    self.check_behind(book, other, k)

    def check_behind(self, book, other, k):
        """Where one behind begins where it did, they are ALIKE FROM it on."""
        begins = {row[0]: row for row in spread(other)}
        for row in spread(book)[k + 1:]:
            if begins[row[0]] == row:
                names = [section[0] for section in book[2]]
                self.assertLessEqual(names.index(alike_from(book, other)), names.index(row[0]))
                return
