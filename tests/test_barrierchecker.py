"""The checker of BARRIERS [5], [26], [29]; and that a LETTER has a READING or a BARRIER, never both [30]."""

import copy
import unittest
from itertools import combinations, product
from random import Random

from leftspaces.barrierchecker import lets_barrier
from leftspaces.errors import NoPaper, NoReading
from leftspaces.reading import can, reading_with
from leftspaces.readingchecker import lets_reading
from tests.readings import LETTERS, all_readings, has_to_bear, is_barrier, small_books
from tests.refusals import Refusals
from tests.things import ODD, SIXTY, as_lists, deep

LEXICON = (("ann", ("name",)), ("ate", ("act",)), ("inn", ("house", "name")), ("old", ("kind",)),
           ("was", ("act", "be")))
FOLLOW = (("act", "kind"), ("house", "be"), ("name", "act"))
ROW = (None, ("nn", "wa?", "was"))
BARRIER = (("name",), ("act",), ())
SORTS = ((), ("p",), ("q",), ("r",), ("p", "q"), ("p", "r"), ("q", "r"), ("p", "q", "r"))


def first_fault(lexicon, follow, row, letter, tuples):
    """Why rising tuples of WORDS are no BARRIER of a LETTER, as [29] tells it, or None."""
    if len(tuples) != len(row[1]):
        return "many", -1
    for k, sorts in enumerate(tuples):
        if not has_to_bear(lexicon, follow, row, letter, k, tuples[k - 1] if k else ()) <= set(sorts):
            return "lacks", k
    return ("last", -1) if tuples[-1] else None


class LetsBarrier(Refusals, unittest.TestCase):
    def lets(self, row, letter, thing, lexicon=LEXICON, follow=FOLLOW):
        before = copy.deepcopy(thing)
        self.assertIs(lets_barrier(lexicon, follow, row, letter, thing), True)
        self.assertEqual(repr(thing), repr(before))

    def refuses(self, word, at, row, letter, thing, lexicon=LEXICON, follow=FOLLOW):
        before = copy.deepcopy(thing)
        self.check_no_paper(word, at, lets_barrier, lexicon, follow, row, letter, thing)
        self.assertEqual(repr(thing), repr(before))

    def test_barriers(self):
        self.lets(ROW, "a", BARRIER)
        self.lets((None, ("nn", "wa?", "was")), "i", (("house", "name"), ("act", "be"), ()))
        self.lets((None, ("nn",)), "b", ((),))
        self.lets(ROW, "z", ((), (), ()))

    def test_with_others_too(self):
        self.lets(ROW, "a", (("name", "xyz"), ("act", "be", "zzz"), ()))
        self.lets(ROW, "z", (("abcdefgh",), ("a", "name"), ()), follow=())
        self.lets((None, ("nn", "old")), "a", (("name", "zz"), ()), follow=(("act", "kind"), ("zz", "name")))

    def test_others_lead_on_too(self):
        self.refuses("lacks", 1, ROW, "z", (("name",), (), ()))
        self.refuses("lacks", 2, (None, ("nn", "was", "old")), "z", ((), ("act",), ()))
        self.refuses("lacks", 1, ROW, "a", (("name", "zz"), ("act",), ()), follow=FOLLOW + (("zz", "be"),))
        self.lets(ROW, "a", (("name", "zz"), ("act", "be"), ()), follow=FOLLOW + (("zz", "be"),))

    def test_lacks_at_the_first_place(self):
        self.refuses("lacks", 0, ROW, "a", ((), ("act",), ()))
        self.refuses("lacks", 0, ROW, "a", (("nam",), ("act",), ()))
        self.refuses("lacks", 0, ROW, "i", (("name",), ("act", "be"), ()))
        self.refuses("lacks", 0, ROW, "i", (("house",), ("act", "be"), ()))
        self.refuses("lacks", 0, (None, ("nn",)), "a", ((),))

    def test_lacks_behind_the_first_place(self):
        self.refuses("lacks", 1, ROW, "a", (("name",), (), ()))
        self.refuses("lacks", 1, ROW, "i", (("house", "name"), ("act",), ()))
        self.refuses("lacks", 1, ROW, "i", (("house", "name"), ("be",), ()))
        self.refuses("lacks", 2, (None, ("nn", "was", "old")), "a", (("name",), ("act",), ()))

    def test_the_first_place_that_lacks(self):
        self.refuses("lacks", 0, ROW, "i", ((), (), ()))
        self.refuses("lacks", 1, (None, ("nn", "was", "old")), "i", (("house", "name"), (), ()))
        self.refuses("lacks", 0, ROW, "a", ((), (), ("act",)))

    def test_a_sort_of_no_word_there_need_not_be(self):
        self.lets((None, ("nn", "wa?", "ann")), "a", (("name",), ("act",), ()))
        self.lets((None, ("nn", "at?")), "i", (("house", "name"), ()), follow=(("house", "be"), ("name", "be")))
        self.lets((None, ("nn", "xx")), "a", (("name",), ()))

    def test_the_last_one(self):
        self.refuses("last", -1, (None, ("nn", "wa?")), "a", (("name",), ("act",)))
        self.refuses("last", -1, ROW, "a", (("name",), ("act",), ("kind",)))
        self.refuses("last", -1, (None, ("nn",)), "a", (("name",),))
        self.refuses("last", -1, (None, ("nn",)), "z", (("name",),))

    def test_what_lacks_goes_ahead_of_the_last_one(self):
        self.refuses("lacks", 1, ROW, "a", (("name",), (), ("kind",)))
        self.refuses("lacks", 2, (None, ("nn", "was", "old")), "a", (("name",), ("act",), ("act",)))
        self.refuses("lacks", 0, (None, ("nn",)), "a", (("house",),))

    def test_a_guide_that_lacks_the_letter(self):
        for guide in ((), ("i",), ("b", "i", "z")):
            self.lets((guide, ROW[1]), "a", ((), (), ()))
            self.lets((guide, ("nn",)), "a", ((),))
            self.lets((guide, ROW[1]), "a", BARRIER)
            self.refuses("last", -1, (guide, ("nn",)), "a", (("name",),))

    def test_a_guide_that_has_the_letter(self):
        for guide in (("a",), ("a", "i"), LETTERS, None):
            self.refuses("lacks", 0, (guide, ROW[1]), "a", ((), (), ()))
            self.lets((guide, ROW[1]), "a", BARRIER)

    def test_a_pattern_of_eight_signs_at_the_first_place(self):
        lexicon = (("abcdefgh", ("name",)),)
        for pattern in ("abcdefgh", "????????"):
            self.lets((None, (pattern,)), "a", ((),), lexicon)
            self.lets((None, (pattern, "abcdefgh")), "a", ((), ()), lexicon)
        self.refuses("lacks", 0, (None, ("bcdefgh",)), "a", ((),), lexicon)

    def test_a_void_lexicon_and_void_follow(self):
        self.lets(ROW, "a", ((), (), ()), ())
        self.lets(ROW, "a", (("x",), ("x",), ()), ())
        self.lets(ROW, "a", (("name",), (), ()), follow=())
        self.refuses("lacks", 0, ROW, "a", ((), (), ()), follow=())

    def test_too_few_and_too_many(self):
        self.refuses("many", -1, ROW, "a", ())
        self.refuses("many", -1, ROW, "a", BARRIER[:2])
        self.refuses("many", -1, ROW, "a", BARRIER + ((),))
        self.refuses("many", -1, ROW, "a", ((),) * 5000)
        self.refuses("many", -1, ROW, "a", ((), ("kind",)))

    def test_shape_goes_ahead_of_all(self):
        self.refuses("shape", -1, ROW, "a", ((), ("b", "a")))
        self.refuses("shape", -1, ROW, "a", ((), (), None))
        self.refuses("shape", -1, ROW, "a", ((), (), (), ("A",)))

    def test_no_tuple_of_rising_tuples_of_words(self):
        for thing in (None, True, 1, SIXTY, "", "name", [], [()], list(BARRIER), as_lists(BARRIER), (BARRIER,),
                      ("name", "act"), (("name",), ["act"], ()), (("name",), "act", ()), deep(BARRIER, 26, tuple),
                      deep("a", 30, list)):
            self.refuses("shape", -1, ROW, "a", thing)
        for odd in (("b", "a"), ("a", "a"), ("a", "b", "b"), ("A",), ("",), ("a?",), ("a b",), ("abcdefghi",), (None,),
                    (1,), (True,), (("a",),), ("a", 1), ("a", None)):
            for k in range(3):
                self.refuses("shape", -1, ROW, "a", BARRIER[:k] + (odd,) + BARRIER[k + 1:])
        for odd in ODD + (0, 1, SIXTY):
            word = "many" if odd in ((), ((),)) and isinstance(odd, tuple) else "shape"
            self.refuses(word, -1, ROW, "a", odd)
            if odd != ():
                self.refuses("shape", -1, ROW, "a", (odd, ("act",), ()))

    def test_large_things(self):
        words = tuple(sorted("".join(word) for word in product("abcdefghij", repeat=3)))
        self.lets(ROW, "z", (words, words, ()))
        self.refuses("lacks", 0, ROW, "a", (words, words, ()))
        self.refuses("shape", -1, ROW, "a", (words, words[1:] + words[:1], ()))

    def test_by_names(self):
        self.assertIs(lets_barrier(lexicon=LEXICON, follow=FOLLOW, row=ROW, letter="a", thing=BARRIER), True)
        self.check_no_paper("many", -1, lets_barrier, thing=(), letter="a", row=ROW, follow=FOLLOW, lexicon=LEXICON)


class Papers(Refusals):
    """What a test of many small papers asks."""

    def check(self, lexicon, follow, row, letter, thing):
        fault = first_fault(lexicon, follow, row, letter, thing)
        self.assertEqual(fault is None, is_barrier(lexicon, follow, row, letter, thing))
        if fault is None:
            self.assertIs(lets_barrier(lexicon, follow, row, letter, thing), True)
        else:
            self.check_no_paper(*fault, lets_barrier, lexicon, follow, row, letter, thing)
        return fault

    def lets(self, *args):
        """Whether a thing is let by as a BARRIER."""
        try:
            return lets_barrier(*args)
        except NoPaper:
            return False


class Small(Papers, unittest.TestCase):
    def test_each_tuple_of_tuples(self):
        words = set()
        for lexicon, follow, row in small_books(40, 290):
            for letter in "ab":
                for thing in product(SORTS, repeat=min(2, len(row[1]))):
                    fault = self.check(lexicon, follow, row, letter, thing)
                    words.add(fault[0] if fault else None)
        self.assertEqual(words, {None, "many", "lacks", "last"})

    def test_a_sort_less_in_what_is_told(self):
        chance = Random(291)
        for lexicon, follow, row in small_books(300, 292):
            for letter in "abz":
                try:
                    reading_with(lexicon, follow, row, letter)
                except NoReading as refusal:
                    paper = refusal.paper
                    k = chance.randrange(len(paper))
                    less = paper[:k] + (paper[k][1:],) + paper[k + 1:]
                    self.check(lexicon, follow, row, letter, less)


class Either(Papers, unittest.TestCase):
    def test_what_is_told_is_let_by(self):
        for lexicon, follow, row in small_books(400, 300):
            letters = can(lexicon, follow, row)
            for letter in "abcz":
                try:
                    told = reading_with(lexicon, follow, row, letter)
                except NoReading as refusal:
                    self.assertNotIn(letter, letters)
                    self.assertIs(lets_barrier(lexicon, follow, row, letter, refusal.paper), True)
                else:
                    self.assertIn(letter, letters)
                    self.assertIs(lets_reading(lexicon, follow, row, told), True)

    def test_of_all_papers_one_or_the_other(self):
        both = set()
        for lexicon, follow, row in small_books(60, 301):
            if len(row[1]) > 3:
                continue
            readings = all_readings(lexicon, follow, row)
            for letter in "abc":
                some = [thing for thing in readings if thing[0][0][0] == letter]
                self.assertTrue(all(lets_reading(lexicon, follow, row, thing) for thing in some))
                barriers = any(self.lets(lexicon, follow, row, letter, thing)
                               for thing in product(SORTS, repeat=len(row[1])))
                self.assertEqual(barriers, not some, (lexicon, follow, row, letter))
                both.add(barriers)
        self.assertEqual(both, {True, False})

    def test_a_lost_mark_has_no_barrier_that_a_guide_has_not(self):
        for lexicon, follow, (guide, patterns) in small_books(60, 302):
            for letter, thing in product("ab", combinations(SORTS, len(patterns))):
                if self.lets(lexicon, follow, (None, patterns), letter, thing):
                    self.assertTrue(self.lets(lexicon, follow, (guide, patterns), letter, thing))

    def test_as_large_as_may_be(self):
        words = sorted("".join(word) for word in product("abcd", repeat=3))[:60]
        sorts = ("p", "q", "r", "s", "t", "u")
        lexicon = tuple((word, sorts[k % 3:k % 3 + 4]) for k, word in enumerate(words))
        row = (None, ("??",) + ("???",) * 7)
        whole = tuple(product(sorts, repeat=2))
        for letter in "abcd":
            self.assertIs(lets_reading(lexicon, whole, row, reading_with(lexicon, whole, row, letter)), True)
        for follow in (tuple(zip(sorts, sorts[1:])), ()):
            with self.assertRaises(NoReading) as held:
                reading_with(lexicon, follow, row, "a")
            self.assertIs(lets_barrier(lexicon, follow, row, "a", held.exception.paper), True)
            self.check_no_paper("last", -1, lets_barrier, lexicon, follow, row, "a", (sorts,) * 8)
