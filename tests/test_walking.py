"""The WALK of a ROLL, and which of its PAGES are IDLE [7]."""

import copy
import unittest

from leftspaces.walking import Walk, do_page, idle_word, walked
from tests.walks import TURNS, Stands, small_walks

ANN = ("ann", 2, 4, ("re", "we"))
BOB = ("bob", 1, 2, ("e", "we"))
DAN = ("dan", 1, 1, ("be",))
BASE = ((7, 5, (ANN, BOB)), (), (), TURNS)


class Words(unittest.TestCase):
    def told(self, word, *page):
        walk = Walk(BASE[0])
        walk.painted["bob"] = ("a", "red")
        self.assertEqual(idle_word(walk, (1, 0) + page), word)

    def test_each_word(self):
        self.told("twice", "put", ANN, "")
        self.told("ahead", "put", DAN, "zoe")
        self.told("high", "put", ("dan", 6, 1, ("be",)), "")
        self.told("long", "put", ("dan", 5, 1, ("a", "abcdefgh")), "")
        self.told("high", "grow", "ann", 6, 1)
        self.told("full", "paint", "bob", "a", "red")
        self.told("void", "scrape", "ann")
        for page in (("out", "zoe"), ("grow", "zoe", 1, 1), ("guide", "zoe", ()), ("scrape", "zoe"),
                     ("paint", "zoe", "a", "red")):
            self.told("name", *page)

    def test_the_first_word(self):
        long = ("abcdefgh",)
        self.told("twice", "put", ("ann", 6, 1, long), "zoe")
        self.told("ahead", "put", ("dan", 6, 1, long), "zoe")
        self.told("high", "put", ("dan", 6, 1, long), "ann")
        self.told("name", "grow", "zoe", 6, 1)

    def test_none(self):
        for page in (("put", DAN, ""), ("put", DAN, "bob"), ("put", ("dan", 5, 9, ("abcdefg",)), ""), ("out", "ann"),
                     ("grow", "ann", 5, 9), ("grow", "bob", 1, 2), ("guide", "bob", ("z",)), ("scrape", "bob"),
                     ("paint", "ann", "z", "pink"), ("bill", "z", 9)):
            self.told("", *page)


class Walked(unittest.TestCase):
    def test_as_the_words_tell_it(self):
        for base, roll, moment in small_walks(400, 70):
            before = copy.deepcopy((base, roll))
            walk = walked(base, roll, moment)
            stands = Stands(base, roll, moment)
            self.assertEqual(walk.book, (*base[0][:2], tuple(stands.sections)))
            for section in stands.sections:
                self.assertEqual(walk.marks.get(section[0]), stands.marks.get(section[0]) or None)
            self.assertEqual(walk.painted, stands.painted)
            self.assertEqual(walk.bill, stands.bill)
            self.assertEqual(repr((base, roll)), repr(before))

    def test_idle_pages(self):
        for base, roll, moment in small_walks(400, 71):
            walk = Walk(base[0])
            idle = []
            for page in roll:
                word = idle_word(walk, page)
                if word:
                    idle.append((page, word))
                else:
                    do_page(walk, page)
            self.assertEqual(idle, Stands(base, roll, (99999, 999)).idle)
