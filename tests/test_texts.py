"""SECTIONS, PAGES, ROLLS and BASES, written [79]."""

import copy
import unittest

from leftspaces.texts import base_lines, page_line, roll_lines, section_word
from tests.lines import ANN, BASE, BASE_LINES, BOB, LINES, PAGES
from tests.things import SIXTY


class Written(unittest.TestCase):
    def told(self, deed, thing, expected):
        before = copy.deepcopy(thing)
        told = deed(thing)
        self.assertEqual(repr(told), repr(expected))
        self.assertEqual(repr(thing), repr(before))

    def test_a_section(self):
        self.told(section_word, ANN, "ann:3:4:nn,was,old")
        self.told(section_word, BOB, "bob:1:2:ob")
        self.told(section_word, ("a", 10, 1, ("x", "abcdefgh")), "a:10:1:x,abcdefgh")
        self.told(section_word, ("a", SIXTY, 1, ("x",)), "a:" + str(SIXTY) + ":1:x")
        self.assertEqual(section_word(section=BOB), "bob:1:2:ob")

    def test_a_page_of_each_kind(self):
        self.assertEqual(len(PAGES), len(LINES))
        for page, line in zip(PAGES, LINES):
            self.told(page_line, page, line)
        self.assertEqual(page_line(page=PAGES[2]), "0 0 out ann")

    def test_as_the_document_writes_them(self):
        self.told(page_line, (4, 0, "put", ("ann", 3, 4, ("nn", "was", "old")), "bob"),
                  "4 0 put ann:3:4:nn,was,old bob")
        self.told(page_line, (4, 7, "guide", "ann", ("a", "e")), "4 7 guide ann ae")
        self.told(page_line, (5, 0, "paint", "ann", "a", "red"), "5 0 paint ann a red")

    def test_nothing_is_a_dash(self):
        self.told(page_line, (1, 2, "guide", "ann", ()), "1 2 guide ann -")
        self.told(page_line, (1, 2, "put", BOB, ""), "1 2 put bob:1:2:ob -")

    def test_guides_of_some_letters(self):
        self.told(page_line, (1, 2, "guide", "ann", ("a",)), "1 2 guide ann a")
        letters = "abcdefghijklmnopqrstuvwxyz"
        self.told(page_line, (1, 2, "guide", "ann", tuple(letters)), "1 2 guide ann " + letters)
        self.told(page_line, (1, 2, "guide", "ann", ("a", "b", "c", "d")), "1 2 guide ann abcd")

    def test_numbers(self):
        self.told(page_line, (0, 0, "bill", "a", 0), "0 0 bill a 0")
        self.told(page_line, (99999, 999, "bill", "a", SIXTY), "99999 999 bill a " + str(SIXTY))

    def test_a_roll(self):
        self.told(roll_lines, PAGES, list(LINES))
        self.told(roll_lines, PAGES[3:4], list(LINES[3:4]))
        self.told(roll_lines, (), [])
        self.assertEqual(roll_lines(roll=()), [])

    def test_a_base(self):
        self.told(base_lines, BASE, BASE_LINES)
        self.assertEqual(base_lines(base=BASE), BASE_LINES)

    def test_a_base_without_sections_words_pairs(self):
        book, lexicon, follow, turns = BASE
        self.told(base_lines, ((9, 5, ()), lexicon, follow, turns), BASE_LINES[:1] + BASE_LINES[3:])
        self.told(base_lines, (book, (), follow, turns), BASE_LINES[:3] + BASE_LINES[6:])
        self.told(base_lines, (book, lexicon, (), turns), BASE_LINES[:6] + BASE_LINES[8:])
        self.told(base_lines, ((9, 5, ()), (), (), ((1, ("red",)),)), ["book 9 5", "turn 1 red"])

    def test_lists_told_are_the_askers_own(self):
        for deed, thing in ((roll_lines, PAGES), (base_lines, BASE)):
            told = deed(thing)
            told.clear()
            told.append("x")
            self.assertEqual(deed(thing), list(LINES) if deed is roll_lines else BASE_LINES)
