"""The checker of READINGS [5], [26], [28]."""

import copy
import unittest
from itertools import product
from random import Random

from leftspaces.reading import can, reading_with
from leftspaces.readingchecker import lets_reading
from tests.readings import LETTERS, all_readings, is_reading, small_books, there
from tests.refusals import Refusals
from tests.things import ODD, SIXTY, as_lists, cut_or_longer, deep

LEXICON = (("ann", ("name",)), ("ate", ("act",)), ("enn", ("name",)), ("inn", ("house", "name")), ("old", ("kind",)),
           ("was", ("act", "be")))
FOLLOW = (("act", "kind"), ("be", "kind"), ("house", "be"), ("name", "act"))
ROW = (("a", "i"), ("nn", "wa?", "old"))
READING = (("ann", "name"), ("was", "act"), ("old", "kind"))
OTHER = (("inn", "house"), ("was", "be"), ("old", "kind"))


def first_fault(lexicon, follow, row, pairs):
    """Why as many pairs of texts as there are PATTERNS are no READING, as [28] tells it, or None."""
    guide, patterns = row
    if len(pairs) != len(patterns):
        return "many", -1
    wrong = []
    for k, (word, sort) in enumerate(pairs):
        rows = dict(there(lexicon, row, k))
        wrong += [("word", k)] * (word not in rows)
        wrong += [("guide", 0)] * (k == 0 and guide is not None and word[:1] not in guide)
        wrong += [("sort", k)] * (sort not in rows.get(word, ()))
        wrong += [("follow", k)] * (k > 0 and (pairs[k - 1][1], sort) not in follow)
    return wrong[0] if wrong else None


class LetsReading(Refusals, unittest.TestCase):
    def lets(self, row, thing, lexicon=LEXICON, follow=FOLLOW):
        before = copy.deepcopy(thing)
        self.assertIs(lets_reading(lexicon, follow, row, thing), True)
        self.assertEqual(repr(thing), repr(before))

    def refuses(self, word, at, row, thing, lexicon=LEXICON, follow=FOLLOW):
        before = copy.deepcopy(thing)
        self.check_no_paper(word, at, lets_reading, lexicon, follow, row, thing)
        self.assertEqual(repr(thing), repr(before))

    def test_readings(self):
        self.lets(ROW, READING)
        self.lets(ROW, OTHER)
        self.lets((None, ("nn",)), (("enn", "name"),))
        self.lets((None, ("??", "?t?")), (("inn", "name"), ("ate", "act")))

    def test_a_lost_mark(self):
        for word in ("ann", "enn", "inn"):
            self.lets((None, ("nn", "was")), ((word, "name"), ("was", "act")))

    def test_a_guide_of_none(self):
        self.refuses("guide", 0, ((), ("nn", "wa?", "old")), READING)
        self.refuses("guide", 0, ((), ("nn",)), (("ann", "name"),))

    def test_a_guide_that_lacks_the_letter(self):
        self.refuses("guide", 0, (("e", "i"), ROW[1]), READING)
        self.refuses("guide", 0, (("a",), ROW[1]), OTHER)
        self.refuses("guide", 0, (("n", "x"), ROW[1]), READING)

    def test_a_pattern_of_eight_signs_at_the_first_place(self):
        lexicon = (("abcdefgh", ("name",)), ("bcdefgh", ("name",)))
        for word in ("abcdefgh", "bcdefgh", "aabcdefg", "a" * 9):
            self.refuses("word", 0, (None, ("abcdefgh",)), ((word, "name"),), lexicon)
            self.refuses("word", 0, (None, ("????????",)), ((word, "name"),), lexicon)
        self.lets((None, ("bcdefgh",)), (("abcdefgh", "name"),), lexicon)

    def test_no_pairs_at_all(self):
        self.refuses("many", -1, ROW, ())
        self.refuses("many", -1, (None, ("nn",)), ())

    def test_too_few_and_too_many(self):
        self.refuses("many", -1, ROW, READING[:2])
        self.refuses("many", -1, ROW, READING + READING[-1:])
        self.refuses("many", -1, ROW, READING[:1] * 5000)

    def test_a_word_that_is_not_there(self):
        for word in ("nn", "ate", "xnn", "", "ANN", "an", "anna", "?nn"):
            self.refuses("word", 0, ROW, ((word, "name"),) + READING[1:])
        for word in ("as", "ate", "wax", "", "wa?", "old"):
            self.refuses("word", 1, ROW, (READING[0], (word, "act"), READING[2]))
        self.refuses("word", 2, ROW, READING[:2] + (("olds", "kind"),))

    def test_a_sort_that_the_word_has_not(self):
        for sort in ("house", "", "NAME", "nam", "act", "x", "a b"):
            self.refuses("sort", 0, ROW, (("ann", sort),) + READING[1:])
        self.refuses("sort", 1, ROW, (READING[0], ("was", "name"), READING[2]))
        self.refuses("sort", 2, ROW, READING[:2] + (("old", "act"),))

    def test_sorts_that_do_not_follow(self):
        self.refuses("follow", 1, ROW, (("ann", "name"), ("was", "be"), ("old", "kind")))
        self.refuses("follow", 1, ROW, (("inn", "house"), ("was", "act"), ("old", "kind")))
        self.refuses("follow", 2, (None, ("nn", "was", "was")), (("ann", "name"), ("was", "act"), ("was", "be")))
        self.refuses("follow", 1, (None, ("nn", "was")), READING[:2], follow=())
        self.refuses("follow", 1, (None, ("nn", "was")), READING[:2], follow=(("act", "name"),))

    def test_the_order_within_a_pair(self):
        self.refuses("word", 0, ((), ROW[1]), (("xnn", "x"),) + READING[1:])
        self.refuses("guide", 0, ((), ROW[1]), (("ann", "x"),) + READING[1:])
        self.refuses("word", 1, ROW, (READING[0], ("ate", "x"), READING[2]))
        self.refuses("sort", 1, ROW, (READING[0], ("was", "house"), READING[2]))

    def test_pair_goes_by_pair(self):
        self.refuses("sort", 0, ROW, (("ann", "x"), ("xxx", "x"), ("xxx", "x")))
        self.refuses("guide", 0, (("e",), ROW[1]), (("ann", "name"), ("xxx", "x"), ("xxx", "x")))
        self.refuses("follow", 1, ROW, (("ann", "name"), ("was", "be"), ("xxx", "x")))
        self.refuses("sort", 1, ROW, (("ann", "name"), ("was", "x"), ("xxx", "x")))

    def test_many_goes_ahead_of_the_pairs(self):
        self.refuses("many", -1, ROW, (("xxx", "x"),) * 2)
        self.refuses("many", -1, ((), ROW[1]), READING[:1])

    def test_shape_goes_ahead_of_all(self):
        self.refuses("shape", -1, ROW, (("xxx", "x"), None))
        self.refuses("shape", -1, ROW, READING + (("old", 1),))
        self.refuses("shape", -1, ROW, READING[:2] + (["old", "kind"],))
        self.refuses("shape", -1, ROW, READING[:2] + ("ok",))

    def test_no_tuple_of_pairs_of_texts(self):
        for thing in (None, True, 1, SIXTY, "", "ann name", [], list(READING), as_lists(READING), (READING,), ((),),
                      ("ann", "name"), (1, 2), deep(READING, 26, tuple), deep("a", 30, list), (("ann",),)):
            self.refuses("shape", -1, ROW, thing)
        for odd in ODD + (0, 1, SIXTY):
            if not isinstance(odd, str):
                for place in product(range(3), range(2)):
                    self.refuses("shape", -1, ROW, self.put(odd, *place))
            self.refuses("many" if odd == () else "shape", -1, ROW, odd)
        for pair in cut_or_longer(READING[1], "was"):
            self.refuses("shape", -1, ROW, (READING[0], pair, READING[2]))

    def put(self, odd, k, side):
        """READING with an odd thing in the place of a text."""
        pair = READING[k][:side] + (odd,) + READING[k][side + 1:]
        return READING[:k] + (pair,) + READING[k + 1:]

    def test_a_void_lexicon(self):
        self.refuses("word", 0, ROW, READING, ())
        self.refuses("word", 0, (None, ("??",)), (("ann", "name"),), ())

    def test_large_things(self):
        self.refuses("shape", -1, ROW, (("ann", "name"),) * 2499 + (("ann",),))
        self.refuses("word", 0, ROW, (("a" * 4000, "name"),) + READING[1:])
        self.refuses("sort", 0, ROW, (("ann", "~" * 4000),) + READING[1:])

    def test_by_names(self):
        self.assertIs(lets_reading(lexicon=LEXICON, follow=FOLLOW, row=ROW, thing=READING), True)
        self.check_no_paper("many", -1, lets_reading, thing=(), row=ROW, follow=FOLLOW, lexicon=LEXICON)


class Small(Refusals, unittest.TestCase):
    def check(self, lexicon, follow, row, thing):
        fault = first_fault(lexicon, follow, row, thing)
        self.assertEqual(fault is None, is_reading(lexicon, follow, row, thing))
        if fault is None:
            self.assertIs(lets_reading(lexicon, follow, row, thing), True)
        else:
            self.check_no_paper(*fault, lets_reading, lexicon, follow, row, thing)
        return fault

    def test_what_reading_with_tells_is_let_by(self):
        for lexicon, follow, row in small_books(400, 280):
            for letter in can(lexicon, follow, row):
                told = reading_with(lexicon, follow, row, letter)
                self.assertIs(lets_reading(lexicon, follow, row, told), True)

    def test_of_all_pairs_just_the_readings(self):
        words = set()
        for lexicon, follow, row in small_books(60, 281):
            pairs = list(product([word for word, _ in lexicon[:4]] + ["ab"], ("p", "q")))
            for thing in product(pairs, repeat=min(2, len(row[1]))):
                fault = self.check(lexicon, follow, row, thing)
                words.add(fault[0] if fault else None)
        self.assertEqual(words, {None, "many", "word", "guide", "sort", "follow"})

    def test_readings_with_some_text_otherwise(self):
        chance = Random(282)
        words = set()
        for lexicon, follow, row in small_books(400, 283):
            for thing in all_readings(lexicon, follow, row)[:3]:
                k = chance.randrange(len(thing))
                pair = chance.choice([(chance.choice(lexicon)[0], thing[k][1]), (thing[k][0], chance.choice("pqrx"))])
                fault = self.check(lexicon, follow, row, thing[:k] + (pair,) + thing[k + 1:])
                words.add(fault[0] if fault else None)
        self.assertLessEqual({None, "word", "sort", "follow"}, words)

    def test_only_letters_of_can_have_a_reading(self):
        for lexicon, follow, row in small_books(100, 284):
            let = {thing[0][0][0] for thing in all_readings(lexicon, follow, row)
                   if lets_reading(lexicon, follow, row, thing)}
            self.assertEqual([letter for letter in LETTERS if letter in let], list(can(lexicon, follow, row)))
