"""PATTERNS, and which WORDS FIT them [5], [25]."""

import string
import unittest
from itertools import product

from leftspaces.patterns import fits, is_pattern
from tests.looks import Looks
from tests.things import ODD, SIXTY, deep

SIGNS = string.ascii_lowercase + "?"


class IsPattern(Looks, unittest.TestCase):
    def test_patterns(self):
        for thing in ("a", "?", "z", "ab", "a?", "?a", "??", "abcdefgh", "????????", "a?c?e?g?", "was", "nn"):
            self.told(is_pattern, thing, True)

    def test_each_length(self):
        for many in range(12):
            self.told(is_pattern, "?" * many, 1 <= many <= 8)
            self.told(is_pattern, "q" * many, 1 <= many <= 8)
            self.told(is_pattern, ("q?" * many)[:many], 1 <= many <= 8)

    def test_each_sign_anywhere(self):
        for sign in (chr(code) for code in range(32, 127)):
            self.told(is_pattern, sign, sign in SIGNS)
            for place in range(8):
                self.told(is_pattern, "b" * place + sign + "?" * (7 - place), sign in SIGNS)

    def test_other_things(self):
        good = ("a", "?")
        for thing in ODD + (("?",), ["?"], ("a", "?"), 1, 0, SIXTY, "?" * 4000, "a" * 4000, "? ", "*", ".", b"?",
                            (None, ("?",)), ("?",) * 5000, deep("?", 30, tuple), deep("?", 30, list)):
            self.told(is_pattern, thing, isinstance(thing, str) and thing in good)


class Fits(unittest.TestCase):
    def told(self, pattern, word, expected):
        self.assertIs(fits(pattern, word), expected, (pattern, word))
        self.assertIs(fits(pattern=pattern, word=word), expected, (pattern, word))

    def test_letters(self):
        self.told("was", "was", True)
        self.told("was", "wax", False)
        self.told("was", "has", False)
        self.told("was", "wis", False)
        self.told("a", "a", True)
        self.told("a", "b", False)

    def test_signs_that_can_not_be_read(self):
        for pattern in ("?as", "w?s", "wa?", "??s", "w??", "?a?", "???"):
            self.told(pattern, "was", True)
        for pattern in ("?os", "w?x", "ha?", "??x", "h??", "?o?"):
            self.told(pattern, "was", False)
        self.told("????????", "abcdefgh", True)
        self.told("?", "q", True)

    def test_another_length(self):
        for pattern in ("wa", "wass", "w", "??", "????", "?", "was?", "?was", "????????"):
            self.told(pattern, "was", False)

    def test_each_pattern_and_word_of_few_signs(self):
        words = ["".join(word) for many in (1, 2, 3) for word in product("ab", repeat=many)]
        patterns = ["".join(signs) for many in (1, 2, 3) for signs in product("ab?", repeat=many)]
        for pattern in patterns:
            fit = {"".join(word) for word in product(*["ab" if sign == "?" else sign for sign in pattern])}
            for word in words:
                self.told(pattern, word, word in fit)
