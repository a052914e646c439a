"""LEXICONS, FOLLOW, SORTS of WORDS, and which WORDS FIT [5], [25], [26]."""

import copy
import string
import unittest
from itertools import product

from leftspaces.lexicons import is_follow, is_lexicon, sorts_of, words_for
from tests.looks import Looks
from tests.things import ODD, SIXTY, as_lists, cut_or_longer, deep, swapped

LEXICON = (("ann", ("name",)), ("inn", ("house", "name")), ("old", ("kind",)), ("was", ("act",)),
           ("wast", ("act", "rest")))
FOLLOW = (("act", "kind"), ("house", "act"), ("name", "act"), ("name", "name"))
LETTERS = tuple(string.ascii_lowercase)


class IsLexicon(Looks, unittest.TestCase):
    def test_lexicons(self):
        for thing in (LEXICON, LEXICON[1:], LEXICON[:1], (("ab", ("a",)),), (("abcdefgh", ("a", "abcdefgh")),)):
            self.told(is_lexicon, thing, True)

    def test_without_rows(self):
        self.told(is_lexicon, (), True)

    def test_of_however_many_rows_and_sorts(self):
        words = ["".join(word) for word in product(LETTERS, repeat=2)]
        rows = tuple((word, ("a", "b")) for word in words)
        self.told(is_lexicon, rows, True)
        self.told(is_lexicon, rows[1:] + rows[:1], False)
        self.told(is_lexicon, (("ab", tuple(words)),), True)
        self.told(is_lexicon, (("ab", tuple(words[:-1] + ["a"])),), False)

    def test_words_rise(self):
        for words, expected in ((("ab", "ac"), True), (("ac", "ab"), False), (("ab", "ab"), False),
                                (("ab", "abc"), True), (("abc", "ab"), False), (("ab", "ac", "ac"), False),
                                (("ab", "ad", "ac"), False), (("zz", "aaa"), False), (("aaa", "zz"), True)):
            self.told(is_lexicon, tuple((word, ("a",)) for word in words), expected)

    def test_words_have_two_letters_or_more(self):
        for word, expected in (("a", False), ("ab", True), ("abcdefgh", True), ("abcdefghi", False), ("", False),
                               ("Ab", False), ("a?", False), ("??", False), ("a b", False), (None, False), (1, False),
                               (True, False), (("a", "b"), False), (["ab"], False)):
            self.told(is_lexicon, ((word, ("a",)),), expected)
            self.told(is_lexicon, (("aa", ("a",)), (word, ("a",))), expected)

    def test_sorts_rise(self):
        for sorts, expected in ((("a",), True), (("a", "b"), True), (("b", "a"), False), (("a", "a"), False),
                                (("a", "ab", "b"), True), (("a", "b", "ab"), False), (("a", "b", "b"), False)):
            self.told(is_lexicon, (("ann", sorts),), expected)
            self.told(is_lexicon, LEXICON + (("zz", sorts),), expected)

    def test_sorts_are_one_or_more_in_a_tuple(self):
        for sorts in ((), [], ["a"], "a", "ab", None, 1, True, ("A",), ("",), ("a", ""), ("abcdefghi",), ("a", None),
                      (1,), (("a",),), ("a", "?")):
            self.told(is_lexicon, (("ann", sorts),), False)
            self.told(is_lexicon, LEXICON + (("zz", sorts),), False)

    def test_rows_are_pairs(self):
        for more in (None, 1, "ab", ("a",)):
            for row in cut_or_longer(LEXICON[0], more):
                self.told(is_lexicon, (row,), False)
        self.told(is_lexicon, (["ann", ("name",)],), False)
        self.told(is_lexicon, (LEXICON[0], list(LEXICON[1])), False)

    def test_other_things(self):
        for thing in ODD + (LEXICON[0], list(LEXICON), as_lists(LEXICON), 0, 1, SIXTY, deep(LEXICON, 26, tuple),
                            "ann name", dict(LEXICON), ("ann",) * 5000, (LEXICON[0],) * 2000, deep("ann", 30, list)):
            self.told(is_lexicon, thing, thing == ())

    def test_any_odd_thing_in_any_place(self):
        for odd in ODD + (0, -1):
            for thing in swapped(LEXICON, odd):
                self.told(is_lexicon, thing, thing == ())


class IsFollow(Looks, unittest.TestCase):
    def test_follow(self):
        for thing in (FOLLOW, FOLLOW[1:], (("a", "a"),), (("abcdefgh", "a"), ("b", "abcdefgh"))):
            self.told(is_follow, thing, True)

    def test_without_pairs(self):
        self.told(is_follow, (), True)

    def test_of_however_many_pairs(self):
        pairs = tuple(product(LETTERS, repeat=2))
        self.told(is_follow, pairs, True)
        self.told(is_follow, pairs + pairs[-1:], False)
        self.told(is_follow, pairs[1:] + pairs[:1], False)

    def test_pairs_rise(self):
        for pairs, expected in (((("a", "b"), ("b", "a")), True), ((("b", "a"), ("a", "b")), False),
                                ((("a", "b"), ("a", "b")), False), ((("a", "b"), ("a", "c")), True),
                                ((("a", "c"), ("a", "b")), False), ((("a", "z"), ("ab", "a")), True),
                                ((("ab", "a"), ("a", "z")), False), ((("a", "a"), ("a", "b"), ("a", "b")), False)):
            self.told(is_follow, pairs, expected)

    def test_pairs_are_sorts(self):
        for odd in ("", "A", "a b", "abcdefghi", "?", None, 1, True, ("a",), ["a"], ()):
            for pair in ((odd, "a"), ("a", odd), (odd, odd)):
                self.told(is_follow, (pair,), False)
                self.told(is_follow, (("a", "a"), pair), False)

    def test_pairs_are_tuples_of_two(self):
        for more in (None, 1, "ab", ("a",)):
            for pair in cut_or_longer(FOLLOW[0], more):
                self.told(is_follow, (pair,), False)
        for pair in (["a", "b"], "ab", ("ab",), ("a", "b", "c"), (("a", "b"),)):
            self.told(is_follow, (pair,), False)

    def test_other_things(self):
        for thing in ODD + (FOLLOW[0], list(FOLLOW), as_lists(FOLLOW), 0, 1, SIXTY, deep(FOLLOW, 27, tuple), "a b",
                            dict(FOLLOW), ("a",) * 5000, ("ab", "cd"), deep("a", 30, list)):
            self.told(is_follow, thing, thing == ())

    def test_any_odd_thing_in_any_place(self):
        for odd in ODD + (0, -1):
            for thing in swapped(FOLLOW, odd):
                self.told(is_follow, thing, thing == ())


class SortsOf(unittest.TestCase):
    def told(self, lexicon, word, expected):
        self.assertEqual(sorts_of(lexicon, word), expected)
        self.assertIs(sorts_of(lexicon=lexicon, word=word).__class__, tuple)

    def test_of_each_word(self):
        for word, sorts in LEXICON:
            self.told(LEXICON, word, sorts)

    def test_of_a_word_that_is_not_there(self):
        for word in ("a", "an", "anna", "nn", "inns", "wa", "wasted", "zz", "name", "abcdefgh"):
            self.told(LEXICON, word, ())
        self.told((), "ann", ())


class WordsFor(unittest.TestCase):
    def told(self, expected, *args):
        told = words_for(*args)
        self.assertEqual(told, expected)
        self.assertIs(told.__class__, tuple)

    def test_without_a_guide(self):
        for more in ((), (None,)):
            self.told(("ann",), LEXICON, "ann", *more)
            self.told(("ann", "inn"), LEXICON, "?nn", *more)
            self.told(("ann", "inn", "old", "was"), LEXICON, "???", *more)
            self.told(("wast",), LEXICON, "????", *more)
            self.told((), LEXICON, "nn", *more)
            self.told((), LEXICON, "??", *more)
            self.told((), LEXICON, "ann?", *more)
            self.told((), LEXICON, "zzz", *more)

    def test_with_a_guide(self):
        self.told(("ann", "inn"), LEXICON, "nn", ("a", "i"))
        self.told(("ann",), LEXICON, "nn", ("a",))
        self.told(("inn",), LEXICON, "?n", ("e", "i", "o"))
        self.told(("old", "was"), LEXICON, "??", ("o", "w"))
        self.told(("wast",), LEXICON, "???", LETTERS)
        self.told((), LEXICON, "nn", ("b", "c"))
        self.told((), LEXICON, "ann", ("a",))
        self.told((), LEXICON, "???", ("a", "i", "o"))

    def test_with_a_guide_of_no_letters(self):
        for pattern in ("nn", "??", "ann", "???"):
            self.told((), LEXICON, pattern, ())

    def test_with_all_letters(self):
        self.told(("ann", "inn"), LEXICON, "nn", LETTERS)
        self.told(("ann", "inn", "old", "was"), LEXICON, "??", LETTERS)

    def test_by_a_pattern_of_eight_signs(self):
        lexicon = (("abcdefg", ("a",)), ("abcdefgh", ("a",)))
        self.told(("abcdefgh",), lexicon, "????????")
        self.told((), lexicon, "????????", LETTERS)
        self.told((), lexicon, "abcdefgh", LETTERS)
        self.told(("abcdefgh",), lexicon, "bcdefgh", LETTERS)

    def test_of_a_void_lexicon(self):
        self.told((), (), "???")
        self.told((), (), "??", LETTERS)

    def test_by_names(self):
        self.assertEqual(words_for(lexicon=LEXICON, pattern="?n", guide=("i",)), ("inn",))
        self.assertEqual(words_for(LEXICON, "?nn", guide=None), ("ann", "inn"))

    def test_the_lexicon_is_as_it_was(self):
        before = copy.deepcopy(LEXICON)
        words_for(LEXICON, "??", ("a",))
        self.assertEqual(LEXICON, before)

    def test_each_pattern_and_guide_of_few_letters(self):
        words = sorted("".join(word) for many in (2, 3) for word in product("ab", repeat=many))
        for left_out in range(len(words) + 1):
            some = words[:left_out] + words[left_out + 1:]
            lexicon = tuple((word, ("a",)) for word in some)
            for signs in [signs for many in (1, 2, 3) for signs in product("ab?", repeat=many)]:
                choices = ["ab" if sign == "?" else sign for sign in signs]
                fit = {"".join(word) for word in product(*choices)}
                self.told(tuple(word for word in some if word in fit), lexicon, "".join(signs))
                for guide in ((), ("a",), ("b",), ("a", "b"), LETTERS, ("c",)):
                    fit = {"".join(word) for word in product(guide, *choices)}
                    self.told(tuple(word for word in some if word in fit), lexicon, "".join(signs), guide)
