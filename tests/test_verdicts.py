"""The VERDICT on a painted LETTER [5], [26], [27], [36]."""

import copy
import unittest

from leftspaces.verdicts import verdict
from tests.readings import LETTERS, small_books
from tests.walks import plain_verdict

LEXICON = (("ann", ("name",)), ("ate", ("act",)), ("enn", ("name",)), ("inn", ("house", "name")), ("onn", ("house",)),
           ("was", ("act", "be")))
FOLLOW = (("house", "be"), ("name", "act"))
ROW = (None, ("nn", "ate"))


class Told(unittest.TestCase):
    def told(self, row, letter, expected, lexicon=LEXICON, follow=FOLLOW):
        before = copy.deepcopy((lexicon, follow, row))
        told = verdict(lexicon, follow, row, letter)
        self.assertEqual(repr(told), repr(expected))
        self.assertEqual(repr((lexicon, follow, row)), repr(before))

    def test_may(self):
        self.told(ROW, "a", ("may", ("ann",), ("a", "e", "i")))
        self.told(ROW, "i", ("may", ("inn",), ("a", "e", "i")))
        self.told((("a", "e"), ROW[1]), "e", ("may", ("enn",), ("a", "e")))

    def test_right(self):
        self.told((("e", "o"), ROW[1]), "e", ("right", ("enn",), ("e",)))
        self.told((("a",), ROW[1]), "a", ("right", ("ann",), ("a",)))
        self.told((None, ("te", "was")), "a", ("right", ("ate",), ("a",)), follow=(("act", "be"),))

    def test_row(self):
        self.told(ROW, "o", ("row", ("onn",), ("a", "e", "i")))
        self.told((("o",), ROW[1]), "o", ("row", ("onn",), ()))
        self.told((None, ("nn", "nn")), "a", ("row", ("ann",), ()))

    def test_word(self):
        self.told(ROW, "b", ("word", (), ("a", "e", "i")))
        self.told((None, ("xx",)), "a", ("word", (), ()))
        self.told((("b",), ROW[1]), "b", ("word", (), ()))

    def test_guide(self):
        self.told((("e", "i"), ROW[1]), "a", ("guide", ("ann",), ("e", "i")))
        self.told((("e",), ROW[1]), "o", ("guide", ("onn",), ("e",)))
        self.told((("e",), ROW[1]), "z", ("guide", (), ("e",)))

    def test_a_guide_of_none(self):
        self.told(((), ROW[1]), "a", ("guide", ("ann",), ()))
        self.told(((), ROW[1]), "z", ("guide", (), ()))

    def test_a_lost_mark(self):
        self.told((None, ("nn",)), "o", ("may", ("onn",), ("a", "e", "i", "o")))

    def test_several_words_made(self):
        lexicon = (("aab", ("p",)), ("abb", ("p", "q")), ("acb", ("q",)), ("bab", ("p",)))
        self.told((None, ("?b",)), "a", ("may", ("aab", "abb", "acb"), ("a", "b")), lexicon)
        self.told((("b",), ("?b",)), "a", ("guide", ("aab", "abb", "acb"), ("b",)), lexicon)
        self.told((("a",), ("?b",)), "a", ("right", ("aab", "abb", "acb"), ("a",)), lexicon)

    def test_made_are_all_words_there_not_just_those_of_readings(self):
        lexicon = (("aab", ("p",)), ("abb", ("q",)), ("cc", ("p",)))
        self.told((None, ("?b", "cc")), "a", ("right", ("aab", "abb"), ("a",)), lexicon, (("p", "p"),))

    def test_a_first_pattern_of_eight_signs(self):
        lexicon = (("abcdefgh", ("p",)),)
        self.told((None, ("????????",)), "a", ("word", (), ()), lexicon)
        self.told((None, ("???????",)), "a", ("right", ("abcdefgh",), ("a",)), lexicon)

    def test_a_void_lexicon(self):
        self.told(ROW, "a", ("word", (), ()), ())
        self.told((("b",), ROW[1]), "a", ("guide", (), ()), ())

    def test_by_names(self):
        self.assertEqual(verdict(letter="a", row=ROW, follow=FOLLOW, lexicon=LEXICON)[0], "may")

    def test_small_books(self):
        words = set()
        for lexicon, follow, row in small_books(100, 360):
            for letter in "abcz":
                expected = plain_verdict(lexicon, follow, row, letter)
                self.told(row, letter, expected, lexicon, follow)
                words.add(expected[0])
        self.assertEqual(words, {"guide", "word", "row", "right", "may"})

    def test_each_letter(self):
        for letter in LETTERS:
            self.told(ROW, letter, plain_verdict(LEXICON, FOLLOW, ROW, letter))
