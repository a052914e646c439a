"""The WALK of a ROLL, and which of its PAGES are IDLE [7]."""

import copy
import unittest

from leftspaces.walking import done, idle_word, stands_at, walked
from tests.walks import END, TURNS, Stands, small_walks

ANN = ("ann", 2, 4, ("re", "we"))
BOB = ("bob", 1, 2, ("e", "we"))
DAN = ("dan", 1, 1, ("be",))
BASE = ((7, 5, (ANN, BOB)), (), (), TURNS)


class Words(unittest.TestCase):
    def told(self, word, *page):
        stands = (BASE[0], {}, {"bob": ("a", "red")}, {})
        self.assertEqual(idle_word(stands, (1, 0) + page), word)

    def test_each_word(self):
        self.told("twice", "put", ANN, "")
        self.told("ahead", "put", DAN, "zoe")
        self.told("high", "put", ("dan", 6, 1, ("be",)), "")
        self.told("long", "put", ("dan", 5, 1, ("a", "abcdefgh")), "")
        self.told("high", "grow", "ann", 6, 1)
        self.told("full", "paint", "bob", "a", "red")
        self.told("void", "scrape", "ann")
        for page in (("out", "zoe"), ("grow", "zoe", 1, 1), ("guide", "zoe", ()), ("scrape", "zoe"),
                     ("paint", "zoe", "a", "red")):
            self.told("name", *page)

    def test_the_first_word(self):
        long = ("abcdefgh",)
        self.told("twice", "put", ("ann", 6, 1, long), "zoe")
        self.told("ahead", "put", ("dan", 6, 1, long), "zoe")
        self.told("high", "put", ("dan", 6, 1, long), "ann")
        self.told("name", "grow", "zoe", 6, 1)

    def test_none(self):
        for page in (("put", DAN, ""), ("put", DAN, "bob"), ("put", ("dan", 5, 9, ("abcdefg",)), ""), ("out", "ann"),
                     ("grow", "ann", 5, 9), ("grow", "bob", 1, 2), ("guide", "bob", ("z",)), ("scrape", "bob"),
                     ("paint", "ann", "z", "pink"), ("bill", "z", 9)):
            self.told("", *page)


class Walked(unittest.TestCase):
    def test_as_the_words_tell_it(self):
        for base, roll, moment in small_walks(400, 70):
            before = copy.deepcopy((base, roll))
            book, marks, painted, bill = stands_at(base, roll, moment)
            stands = Stands(base, roll, moment)
            self.assertEqual(book, (*base[0][:2], tuple(stands.sections)))
            for section in stands.sections:
                self.assertEqual(marks.get(section[0]), stands.marks.get(section[0]) or None)
            self.assertEqual(painted, stands.painted)
            self.assertEqual(bill, stands.bill)
            self.assertEqual(repr((base, roll)), repr(before))

    def test_idle_pages(self):
        for base, roll, _ in small_walks(400, 71):
            self.assertEqual(walked(base[0], roll)[1], Stands(base, roll, END).idle)

    def test_what_stood_ahead_stays_as_it_was(self):
        for base, roll, _ in small_walks(200, 72):
            stands = (base[0], {}, {}, {})
            for page in roll:
                if idle_word(stands, page) == "":
                    before = copy.deepcopy(stands)
                    more = done(stands, page)
                    self.assertEqual(repr(stands), repr(before))
                    stands = more
