"""Which LETTERS a ROW can have, each with a READING, each other one with a BARRIER [5], [27], [29], [30]."""

import copy
import unittest
from itertools import product

from leftspaces.errors import NoReading
from leftspaces.reading import can, reading_with
from tests.readings import LETTERS, all_readings, is_barrier, is_reading, small_books
from tests.refusals import Refusals

LEXICON = (("and", ("join",)), ("ann", ("name",)), ("ate", ("act",)), ("enn", ("name",)), ("inn", ("house",)),
           ("old", ("kind",)), ("she", ("name", "who")), ("was", ("act", "be")))
FOLLOW = (("act", "kind"), ("be", "kind"), ("house", "be"), ("name", "act"), ("name", "be"), ("who", "act"))
ROW = (None, ("nn", "wa?", "old"))


class Answers(Refusals):
    """What a test of CAN and its READINGS asks."""

    def check_all(self, lexicon, follow, row, expected):
        """CAN is as expected; each of its LETTERS has a READING, each other one a BARRIER, none has both."""
        before = copy.deepcopy((lexicon, follow, row))
        told = can(lexicon, follow, row)
        self.assertEqual(told, expected, (lexicon, follow, row))
        self.assertIs(told.__class__, tuple)
        for letter in LETTERS:
            if letter in expected:
                self.check_reading(lexicon, follow, row, letter)
            else:
                self.check_barrier(lexicon, follow, row, letter)
        self.assertEqual(repr((lexicon, follow, row)), repr(before))

    def check_reading(self, lexicon, follow, row, letter):
        told = reading_with(lexicon, follow, row, letter)
        self.assertTrue(is_reading(lexicon, follow, row, told), (lexicon, follow, row, letter, told))
        self.assertEqual(told[0][0][0], letter)
        self.assertIs(told.__class__, tuple)
        self.assertTrue(all(pair.__class__ is tuple for pair in told))

    def check_barrier(self, lexicon, follow, row, letter):
        with self.assertRaises(NoReading) as held:
            reading_with(lexicon, follow, row, letter)
        self.assertIs(held.exception.__class__, NoReading)
        self.assertEqual(list(vars(held.exception)), ["paper"])
        paper = held.exception.paper
        self.assertTrue(is_barrier(lexicon, follow, row, letter, paper), (lexicon, follow, row, letter, paper))
        return paper


class Told(Answers, unittest.TestCase):
    def test_all_letters_that_some_reading_has(self):
        self.check_all(LEXICON, FOLLOW, ROW, ("a", "e", "i"))
        self.check_all(LEXICON, FOLLOW, (None, ("nn", "ate", "old")), ("a", "e"))
        self.check_all(LEXICON, FOLLOW, (None, ("?n", "ate")), ("a", "e"))
        self.check_all(LEXICON, FOLLOW, (None, ("??", "ate", "???")), ("a", "e", "s"))
        self.check_all(LEXICON, FOLLOW, (None, ("nn", "old")), ())

    def test_a_reading(self):
        self.assertEqual(reading_with(LEXICON, FOLLOW, (None, ("nn", "w??", "old")), "i"),
                         (("inn", "house"), ("was", "be"), ("old", "kind")))
        self.assertEqual(reading_with(LEXICON, FOLLOW, (None, ("he", "ate", "old")), "s")[1:],
                         (("ate", "act"), ("old", "kind")))

    def test_one_pattern_alone(self):
        self.check_all(LEXICON, FOLLOW, (None, ("nn",)), ("a", "e", "i"))
        self.check_all(LEXICON, (), (None, ("nn",)), ("a", "e", "i"))
        self.check_all(LEXICON, FOLLOW, (None, ("n",)), ())
        self.check_all(LEXICON, (), (("i",), ("??",)), ("i",))
        self.assertEqual(reading_with(LEXICON, (), (("i",), ("nn",)), "i"), (("inn", "house"),))

    def test_a_guide(self):
        self.check_all(LEXICON, FOLLOW, (("a", "i", "o"), ROW[1]), ("a", "i"))
        self.check_all(LEXICON, FOLLOW, (("e",), ROW[1]), ("e",))
        self.check_all(LEXICON, FOLLOW, (("b", "z"), ROW[1]), ())
        self.check_all(LEXICON, FOLLOW, (LETTERS, ROW[1]), ("a", "e", "i"))

    def test_a_guide_of_no_letters(self):
        self.check_all(LEXICON, FOLLOW, ((), ROW[1]), ())
        self.check_all(LEXICON, FOLLOW, ((), ("nn",)), ())

    def test_a_lost_mark(self):
        self.check_all(LEXICON, FOLLOW, (None, ROW[1]), ("a", "e", "i"))

    def test_a_void_lexicon(self):
        self.check_all((), FOLLOW, ROW, ())
        self.check_all((), (), (None, ("?",)), ())

    def test_void_follow(self):
        self.check_all(LEXICON, (), ROW, ())
        self.check_all(LEXICON, (), (None, ("nn", "???")), ())

    def test_a_first_pattern_of_eight_signs(self):
        lexicon = (("abcdefgh", ("act", "name")), ("bcdefgh", ("name",)))
        self.check_all(lexicon, FOLLOW, (None, ("abcdefgh",)), ())
        self.check_all(lexicon, FOLLOW, (None, ("????????", "abcdefgh")), ())
        self.check_all(lexicon, FOLLOW, (None, ("bcdefgh", "abcdefgh")), ("a",))
        self.check_all(lexicon, FOLLOW, (None, ("??????", "????????")), ("b",))

    def test_words_by_their_whole_pattern_behind_the_first(self):
        self.check_all(LEXICON, FOLLOW, (None, ("nn", "as", "old")), ())
        self.check_all(LEXICON, FOLLOW, (None, ("nn", "was", "ld")), ())
        self.check_all(LEXICON, FOLLOW, (None, ("ann", "was", "old")), ())

    def test_pairs_of_follow_in_their_order(self):
        lexicon = (("aa", ("p",)), ("ab", ("q",)))
        self.check_all(lexicon, (("p", "q"),), (None, ("a", "ab")), ("a",))
        self.check_all(lexicon, (("q", "p"),), (None, ("a", "ab")), ())
        self.check_all(lexicon, (("p", "q"),), (None, ("a", "ab", "aa")), ())
        self.check_all(lexicon, (("p", "q"), ("q", "p")), (None, ("a", "ab", "aa")), ("a",))

    def test_sorts_that_lead_nowhere(self):
        lexicon = (("aa", ("p", "q")), ("ba", ("q",)), ("cc", ("r", "s")), ("dd", ("t",)))
        follow = (("p", "r"), ("q", "s"), ("s", "t"))
        self.check_all(lexicon, follow, (None, ("a", "cc", "dd")), ("a", "b"))
        self.assertEqual(reading_with(lexicon, follow, (None, ("a", "cc", "dd")), "a"),
                         (("aa", "q"), ("cc", "s"), ("dd", "t")))
        self.check_all(lexicon, follow[:2], (None, ("a", "cc", "dd")), ())

    def test_one_word_has_one_sort_at_a_place(self):
        lexicon = (("aa", ("p",)), ("bb", ("q", "r")), ("cc", ("s",)))
        follow = (("p", "q"), ("r", "s"))
        self.check_all(lexicon, follow, (None, ("a", "bb", "cc")), ())

    def test_another_word_of_the_sort_at_the_first_place(self):
        lexicon = (("aa", ("p",)), ("ba", ("p",)), ("cc", ("q",)))
        self.check_all(lexicon, (("p", "q"),), (None, ("a", "cc")), ("a", "b"))
        self.check_all(lexicon, (("p", "q"),), (("b",), ("a", "cc")), ("b",))

    def test_by_names(self):
        self.assertEqual(can(lexicon=LEXICON, follow=FOLLOW, row=ROW), ("a", "e", "i"))
        told = reading_with(lexicon=LEXICON, follow=FOLLOW, row=(None, ("nn",)), letter="i")
        self.assertEqual(told, (("inn", "house"),))
        with self.assertRaises(NoReading):
            reading_with(letter="z", row=ROW, follow=FOLLOW, lexicon=LEXICON)

    def test_as_large_as_may_be(self):
        words = sorted("".join(word) for word in product("abcd", repeat=3))[:60]
        sorts = ("p", "q", "r", "s", "t", "u")
        lexicon = tuple((word, sorts[k % 3:k % 3 + 4]) for k, word in enumerate(words))
        follow = tuple(product(sorts, repeat=2))
        self.check_all(lexicon, follow, (None, ("??",) + ("???",) * 7), ("a", "b", "c", "d"))
        chain = tuple(zip(sorts, sorts[1:]))
        self.check_all(lexicon, chain, (None, ("??",) + ("???",) * 5), ("a", "b", "c", "d"))
        self.check_all(lexicon, chain, (None, ("??",) + ("???",) * 6), ())


class Barriers(Answers, unittest.TestCase):
    def test_one_tuple_for_each_pattern(self):
        for patterns in (("x",), ("x", "was"), ("x", "was", "old", "was")):
            paper = self.check_barrier(LEXICON, FOLLOW, (None, patterns), "a")
            self.assertEqual(paper, ((),) * len(patterns))

    def test_of_a_letter_that_the_guide_lacks(self):
        for guide in ((), ("b",), ("e", "i")):
            paper = self.check_barrier(LEXICON, FOLLOW, (guide, ROW[1]), "a")
            self.assertEqual(len(paper), 3)

    def test_sorts_up_to_where_it_ends(self):
        paper = self.check_barrier(LEXICON, FOLLOW, (None, ("he", "???", "and")), "s")
        self.assertEqual(set(paper[0]), {"name", "who"})
        self.assertLessEqual({"act", "be"}, set(paper[1]))
        self.assertEqual(paper[2], ())
        paper = self.check_barrier(LEXICON, FOLLOW, (None, ("nn", "???", "and")), "i")
        self.assertLessEqual({"house"}, set(paper[0]))
        self.assertLessEqual({"be"}, set(paper[1]))

    def test_of_each_letter_that_no_word_begins_with(self):
        for letter in "bcdfghjklmnopqrstuvwxyz":
            self.check_barrier(LEXICON, FOLLOW, ROW, letter)

    def test_no_barrier_there_is_of_a_letter_with_a_reading(self):
        sorts = ("p", "q")
        tuples = ((), ("p",), ("q",), ("p", "q"))
        lexicon = (("aa", ("p",)), ("ba", ("q",)), ("cc", ("p", "q")))
        for many in range(4):
            follow = tuple(product(sorts, repeat=2))[:many]
            row = (None, ("a", "cc", "cc"))
            for letter in "abc":
                papers = [paper for paper in product(tuples, repeat=3)
                          if is_barrier(lexicon, follow, row, letter, paper)]
                self.assertEqual(bool(papers), letter not in can(lexicon, follow, row))


class SmallBooks(Answers, unittest.TestCase):
    def test_just_the_letters_of_all_readings(self):
        several = 0
        for lexicon, follow, row in small_books(600, 27):
            letters = tuple(sorted({pairs[0][0][0] for pairs in all_readings(lexicon, follow, row)}))
            self.check_all(lexicon, follow, row, letters)
            several += len(letters) > 1 and len(row[1]) > 1
        self.assertGreater(several, 60)

    def grows(self, less, more):
        """No LETTER goes out of CAN."""
        self.assertLessEqual(set(can(*less)), set(can(*more)), (less, more))

    def test_a_row_more(self):
        for lexicon, follow, row in small_books(150, 30):
            for k in range(len(lexicon)):
                self.grows((lexicon[:k] + lexicon[k + 1:], follow, row), (lexicon, follow, row))

    def test_a_sort_more(self):
        for lexicon, follow, row in small_books(150, 31):
            for k, (word, sorts) in enumerate(lexicon):
                for sort in {"p", "q", "r"} - set(sorts):
                    more = lexicon[:k] + ((word, tuple(sorted([*sorts, sort]))),) + lexicon[k + 1:]
                    self.grows((lexicon, follow, row), (more, follow, row))

    def test_a_pair_more(self):
        for lexicon, follow, row in small_books(150, 32):
            for k in range(len(follow)):
                self.grows((lexicon, follow[:k] + follow[k + 1:], row), (lexicon, follow, row))

    def test_a_sign_that_can_not_be_read(self):
        for lexicon, follow, (guide, patterns) in small_books(150, 33):
            for k, pattern in enumerate(patterns):
                for place in range(len(pattern)):
                    blurred = pattern[:place] + "?" + pattern[place + 1:]
                    more = patterns[:k] + (blurred,) + patterns[k + 1:]
                    self.grows((lexicon, follow, (guide, patterns)), (lexicon, follow, (guide, more)))

    def test_a_letter_more_in_the_guide_or_the_mark_lost(self):
        for lexicon, follow, (guide, patterns) in small_books(150, 34):
            for letter in "abcz":
                more = tuple(sorted({*(guide or ()), letter}))
                self.grows((lexicon, follow, (guide or (), patterns)), (lexicon, follow, (more, patterns)))
                self.grows((lexicon, follow, (more, patterns)), (lexicon, follow, (None, patterns)))

    def test_a_pattern_more_behind_the_last(self):
        for lexicon, follow, (guide, patterns) in small_books(150, 35):
            for pattern in ("??", "???", "a?", "abc", "????"):
                self.grows((lexicon, follow, (guide, patterns + (pattern,))), (lexicon, follow, (guide, patterns)))
