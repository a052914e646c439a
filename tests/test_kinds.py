"""The kinds [2], [4], [10]."""

import string
import unittest

from leftspaces.kinds import is_book, is_letter, is_number, is_section, is_word
from tests.looks import Looks
from tests.things import ODD, SIXTY, as_lists, cut_or_longer, deep, swapped

LOOKS = (is_number, is_letter, is_word, is_section, is_book)
ANN = ("ann", 3, 4, ("nn", "was", "old"))
BOB = ("bob", 1, 1, ("ob",))
BOOK = (30, 20, (ANN, BOB))
WORDS = ("a", "z", "m", "ab", "zz", "abcdefgh", "zzzzzzzz")
NO_WORDS = ("", "A", "aB", "Z", "abcdefghi", "z" * 4000, "a b", " ", " a", "a ", "a1", "0", "?", "a?", "-", "{", "`",
            "a{", "`a", "@", "[", "_", "~", "a\n", ("a",), ["a"], None, True, False, 0, 1, 97, (), [])


class Numbers(Looks, unittest.TestCase):
    def test_numbers(self):
        for thing in (0, 1, -1, 2, 30, -30, SIXTY, -SIXTY, 10 ** 59, 10 ** 60 - 1, 1 - 10 ** 60, 10 ** 100):
            self.told(is_number, thing, True)

    def test_truths_are_none(self):
        self.told(is_number, True, False)
        self.told(is_number, False, False)

    def test_other_things_are_none(self):
        for thing in ODD + ("0", "1", "one", (1,), [1], ANN, BOOK):
            self.told(is_number, thing, False)


class Letters(Looks, unittest.TestCase):
    def test_small_letters(self):
        for sign in string.ascii_lowercase:
            self.told(is_letter, sign, True)

    def test_no_other_sign(self):
        for code in range(32, 127):
            sign = chr(code)
            self.told(is_letter, sign, sign in string.ascii_lowercase)

    def test_other_things(self):
        for thing in ODD + ("aa", "ab", "abc", "zz", "a" * 4000, ("a",), ["a"], 0, 1, 97, ANN):
            self.told(is_letter, thing, False)


class Words(Looks, unittest.TestCase):
    def test_words(self):
        for thing in WORDS:
            self.told(is_word, thing, True)

    def test_each_length(self):
        for many in range(12):
            self.told(is_word, "q" * many, 1 <= many <= 8)

    def test_one_wrong_sign_anywhere(self):
        for sign in (chr(code) for code in range(32, 127)):
            for place in range(8):
                text = "b" * place + sign + "b" * (7 - place)
                self.told(is_word, text, sign in string.ascii_lowercase)

    def test_other_things(self):
        for thing in NO_WORDS + ODD + (ANN, BOOK, SIXTY):
            self.told(is_word, thing, False)


class Sections(Looks, unittest.TestCase):
    def test_sections(self):
        for thing in (ANN, BOB, ("a", 1, 1, ("a",)), ("abcdefgh", SIXTY, SIXTY, ("abcdefgh", "a")),
                      ("ann", 99, 1, ("n", "n", "n")), ("ann", 1, 99, ("ann",))):
            self.told(is_section, thing, True)

    def test_of_a_thousand_words(self):
        self.told(is_section, ("ann", 1, 1, ("word",) * 1000), True)
        self.told(is_section, ("ann", 1, 1, ("word",) * 999 + ("Word",)), False)
        self.told(is_section, ("ann", 1, 1, ("Word",) + ("word",) * 999), False)

    def test_without_words(self):
        self.told(is_section, ("ann", 1, 1, ()), False)

    def test_numbers_from_one_on(self):
        for number, expected in ((1, True), (2, True), (0, False), (-1, False), (-SIXTY, False), (SIXTY, True),
                                 (True, False), (False, False), (None, False), ("1", False), ((1,), False)):
            self.told(is_section, ("ann", number, 4, ("nn",)), expected)
            self.told(is_section, ("ann", 3, number, ("nn",)), expected)

    def test_names(self):
        for name in WORDS:
            self.told(is_section, (name, 3, 4, ("nn",)), True)
        for name in NO_WORDS:
            self.told(is_section, (name, 3, 4, ("nn",)), False)

    def test_words(self):
        for word in WORDS:
            self.told(is_section, ("ann", 3, 4, ("a", word, "b")), True)
        for word in NO_WORDS:
            for words in ((word,), (word, "a"), ("a", word), ("a", word, "b")):
                self.told(is_section, ("ann", 3, 4, words), False)

    def test_words_are_a_tuple(self):
        for words in (["nn"], [], "nn", "n", None, 1, {"nn": 1}):
            self.told(is_section, ("ann", 3, 4, words), False)

    def test_a_thing_too_many_or_too_few(self):
        for more in (None, 1, "a", ("a",)):
            for thing in cut_or_longer(ANN, more):
                self.told(is_section, thing, False)

    def test_other_things(self):
        self.told(is_section, as_lists(ANN), False)
        self.told(is_section, list(ANN), False)
        for thing in ODD + (BOOK, (ANN,), [ANN], "ann:3:4:nn", 3, deep(ANN, 28, tuple), deep(ANN, 28, list)):
            self.told(is_section, thing, False)

    def test_any_odd_thing_in_any_place(self):
        for odd in ODD + (0, -1):
            for thing in swapped(ANN, odd):
                self.told(is_section, thing, False)


class Books(Looks, unittest.TestCase):
    def test_books(self):
        for thing in (BOOK, (30, 20, (BOB, ANN)), (30, 20, (ANN,)), (1, 1, (("b", 1, 9, ("a",)),))):
            self.told(is_book, thing, True)

    def test_without_sections(self):
        self.told(is_book, (30, 20, ()), True)
        self.told(is_book, (1, 1, ()), True)
        self.told(is_book, (SIXTY, SIXTY, ()), True)

    def test_of_fifty_sections(self):
        names = ["n" + one + other for one in "abcde" for other in "abcdefghij"]
        sections = tuple((name, 9, 20, ("word",) * 20) for name in names)
        self.assertEqual(len(sections), 50)
        self.told(is_book, (SIXTY, 9, sections), True)
        self.told(is_book, (30, 9, sections[:49] + sections[:1]), False)
        self.told(is_book, (30, 8, sections), False)

    def test_a_name_twice(self):
        self.told(is_book, (30, 20, (ANN, ANN)), False)
        self.told(is_book, (30, 20, (ANN, BOB, ("ann", 1, 1, ("x",)))), False)
        self.told(is_book, (30, 20, (ANN, BOB, ("bob", 1, 1, ("x",)))), False)
        self.told(is_book, (30, 20, (ANN, ("anna",) + ANN[1:])), True)

    def test_a_word_as_long_as_the_width_and_one_longer(self):
        for words in (("abcd",), ("a", "abcd", "b"), ("a", "b", "abcd"), ("abcd", "abcd")):
            for sections in ((("ann", 1, 1, words),), (("cy", 1, 1, ("a",)), ("ann", 1, 1, words))):
                self.told(is_book, (5, 20, sections), True)
                self.told(is_book, (4, 20, sections), True)
                self.told(is_book, (3, 20, sections), False)

    def test_high_as_the_sheet_and_one_more(self):
        for sections in ((ANN,), (ANN, BOB), (BOB, ANN)):
            self.told(is_book, (30, 4, sections), True)
            self.told(is_book, (30, 3, sections), True)
            self.told(is_book, (30, 2, sections), False)

    def test_a_name_longer_than_the_width(self):
        self.told(is_book, (1, 1, (("abcdefgh", 1, 1, ("a", "b")),)), True)

    def test_a_space_wider_than_the_width(self):
        self.told(is_book, (2, 1, (("ann", 1, SIXTY, ("ab",)),)), True)

    def test_numbers_from_one_on(self):
        for number, expected in ((SIXTY, True), (1, True), (0, False), (-1, False), (-SIXTY, False), (True, False),
                                 (False, False), (None, False), ("9", False), ((9,), False), ([9], False)):
            sections = (("b", 1, 1, ("a",)),)
            self.told(is_book, (number, 20, sections), expected)
            self.told(is_book, (30, number, sections), expected)
            self.told(is_book, (number, 20, ()), expected)
            self.told(is_book, (30, number, ()), expected)

    def test_sections_are_a_tuple(self):
        for sections in ([], [ANN], None, 1, "ann", ANN, "", True):
            self.told(is_book, (30, 20, sections), False)

    def test_a_thing_too_many_or_too_few(self):
        for more in (None, 1, "a", (), (ANN,)):
            for thing in cut_or_longer(BOOK, more):
                self.told(is_book, thing, False)

    def test_other_things(self):
        for thing in ODD + (ANN, as_lists(BOOK), list(BOOK), (30, 20, [ANN]), (30, 20, (list(ANN),)), 0, 30,
                            (30, 20, (ANN[:3] + (list(ANN[3]),),)), deep(BOOK, 27, tuple)):
            self.told(is_book, thing, False)

    def test_any_odd_thing_in_any_place(self):
        for odd in ODD + (0, -1):
            if odd != ():
                for thing in swapped(BOOK, odd):
                    self.told(is_book, thing, False)


class Largest(Looks, unittest.TestCase):
    def test_large_and_deep_things_are_looked_at(self):
        for thing in (("a",) * 5000, ["a"] * 5000, (1,) * 5000, "a" * 4000, deep("a", 30, tuple), deep(1, 30, list)):
            for look in LOOKS:
                self.told(look, thing, False)


class Apart(Looks, unittest.TestCase):
    def test_no_truth_is_a_number_however_deep(self):
        good = ("b", 1, 1, ("a",))
        book = (1, 1, (good,))
        self.told(is_section, good, True)
        self.told(is_book, book, True)
        for thing in (("b", True, 1, ("a",)), ("b", 1, True, ("a",))):
            self.told(is_section, thing, False)
            self.told(is_book, (1, 1, (thing,)), False)
        self.told(is_book, (True, 1, (good,)), False)
        self.told(is_book, (1, True, (good,)), False)
