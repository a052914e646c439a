"""The checker of BENT [15], and what [16] says of BENT."""

import copy
import unittest
from itertools import product

from leftspaces.bending import bent
from leftspaces.bentchecker import lets_bent
from leftspaces.errors import NoLay, NoPaper
from leftspaces.laychecker import lets_lay
from tests.refusals import Refusals
from tests.things import ODD, SIXTY, all_lays, as_lists, fits_room, small_sections

ANN = ("ann", 3, 4, ("nn", "was", "old"))
BOB = ("bob", 1, 2, ("ob", "is", "a", "boy"))
WIDTHS = (3, 4, 5, 6, 9)


def first_to_take_more(section, lay, width):
    """The first line that would FIT with the next word, too, as [15] tells it, or None."""
    _, high, wide, words = section
    for i, (ahead, many) in enumerate(zip((0,) + lay, lay)):
        room = max(0, width - (wide if i < high else 0))
        if many < len(words) and fits_room(words[ahead:many + 1], room):
            return i
    return None


class LetsBent(Refusals, unittest.TestCase):
    def refuses(self, word, at, section, thing, width=30):
        before = copy.deepcopy(thing)
        self.check_no_paper(word, at, lets_bent, section, thing, width)
        self.assertEqual(repr(thing), repr(before))

    def told(self, section, thing, width, expected):
        lines = lets_bent(section, thing, width)
        self.assertEqual(lines, expected)
        self.assertIs(lines.__class__, int)

    def test_how_many_lines(self):
        self.told(ANN, (1, 2, 3), 9, 3)
        self.told(ANN, (3, 3, 3), 14, 3)
        self.told(ANN, (2, 3, 3), 13, 3)
        self.told(BOB, (4,), 30, 1)
        self.told(BOB, (1, 3, 4), 5, 3)
        self.told(("ann", 2, 8, ("nn", "was")), (0, 0, 2), 8, 3)

    def test_a_width_left_out_is_thirty(self):
        section = ("bob", 1, 1, ("a",) * 40)
        self.assertEqual(lets_bent(section, (15, 30, 40)), 3)
        self.check_no_paper("ahead", 0, lets_bent, section, (14, 29, 40))
        self.check_no_paper("room", 0, lets_bent, section, (16, 30, 40))

    def test_a_line_that_would_fit_with_the_next_word(self):
        self.refuses("ahead", 0, ANN, (2, 3, 3))
        self.refuses("ahead", 1, BOB, (1, 2, 4), 5)
        self.refuses("ahead", 2, BOB, (1, 3, 3, 4), 5)
        self.refuses("ahead", 0, BOB, (0, 1, 3, 4), 5)

    def test_the_first_such_line(self):
        self.refuses("ahead", 0, ANN, (0, 1, 3))
        self.refuses("ahead", 1, ("ann", 1, 1, ("a",) * 6), (2, 4, 4, 6), 5)
        self.refuses("ahead", 0, ("ann", 1, 1, ("a",) * 6), (1, 3, 6), 5)

    def test_void_lines(self):
        self.refuses("ahead", 0, ANN, (0, 3, 3))
        self.refuses("ahead", 1, ANN, (1, 1, 2, 3), 9)
        self.refuses("ahead", 3, ("ann", 3, 30, ("nn", "was")), (0, 0, 0, 0, 2))
        self.told(("ann", 3, 30, ("nn", "was")), (0, 0, 0, 2), 30, 4)
        self.told(("ann", 4, 1, ("nn", "was")), (2, 2, 2, 2), 30, 4)
        self.told(("ann", 2, 3, ("was", "old")), (0, 0, 1, 2), 5, 4)

    def test_a_word_that_just_fits_and_one_that_just_does_not(self):
        section = ("ann", 1, 2, ("ab", "cd", "e"))
        self.refuses("ahead", 0, section, (1, 3), 7)
        self.told(section, (1, 3), 6, 2)
        self.refuses("ahead", 1, section, (1, 2, 3), 6)
        self.told(section, (2, 3), 7, 2)
        self.told(section, (2, 3), 8, 2)
        self.refuses("ahead", 0, section, (2, 3), 9)

    def test_no_lay(self):
        self.refuses("falls", 1, ANN, (2, 1, 3))
        self.refuses("falls", 0, ANN, (-1, 3, 3))
        self.refuses("words", 0, ANN, (4, 3, 3))
        self.refuses("room", 1, ANN, (1, 3, 3), 9)
        self.refuses("words", 0, ANN, ())
        self.refuses("words", 3, ANN, (1, 2, 2))
        self.refuses("high", 2, ANN, (3, 3))
        self.refuses("void", 4, ANN, (3, 3, 3, 3))

    def test_what_is_no_lay_goes_ahead(self):
        self.refuses("words", 3, ANN, (0, 1, 2))
        self.refuses("high", 2, ANN, (1, 3))
        self.refuses("void", 5, ANN, (0, 0, 3, 3, 3))
        self.refuses("falls", 2, ANN, (0, 1, 0))
        self.refuses("room", 2, ANN, (0, 0, 2), 9)
        self.refuses("shape", -1, ANN, (0, 0, None))

    def test_a_word_longer_than_the_width(self):
        section = ("ann", 1, 1, ("a", "abcd", "b"))
        self.refuses("room", 1, section, (1, 2, 3), 3)
        self.refuses("words", 1, section, (1,), 3)
        self.refuses("words", 0, section, (), 3)

    def test_other_things(self):
        for thing in ODD + (None, 3, SIXTY, [1, 2, 3], as_lists(ANN), (1, 2, True), (1, 2, "3"), (1, 2, (3,)), ANN):
            word, at = ("words", 0) if thing == () else ("shape", -1)
            self.refuses(word, at, ANN, thing, 9)

    def test_large_things(self):
        self.refuses("ahead", 0, ANN, (0,) * 4999 + (3,))
        self.refuses("ahead", 2, ("ann", 2, 30, ("nn", "was")), (0, 0, 1) + (1,) * 4000 + (2,))
        self.refuses("falls", 0, ANN, (-1,) * 5000)
        self.refuses("shape", -1, ANN, [3] * 5000)
        section = ("ann", SIXTY, SIXTY, ("nn",))
        self.refuses("high", 2, section, (0, 1), 2 * SIXTY)
        self.refuses("words", 1, section, (0,), SIXTY)

    def test_by_names(self):
        self.assertEqual(lets_bent(section=ANN, thing=(1, 2, 3), width=9), 3)
        self.check_no_paper("ahead", 0, lets_bent, width=30, thing=(1, 2, 3), section=ANN)


class Small(Refusals, unittest.TestCase):
    def test_of_all_lays_just_bent_is_let_by(self):
        for section in small_sections(3):
            for width in WIDTHS:
                if width < max(map(len, section[3])):
                    continue
                told = bent(section, width)
                self.assertEqual(lets_bent(section, told, width), len(told))
                self.only(section, width, told)

    def only(self, section, width, told):
        for lay in all_lays(section, width):
            line = first_to_take_more(section, lay, width)
            self.assertEqual(line is None, lay == told)
            if line is not None:
                self.check_no_paper("ahead", line, lets_bent, section, lay, width)
            # Behind each line BENT has as many words as any LAY, or more; no LAY has fewer lines [16].
            self.assertGreaterEqual(len(lay), len(told))
            self.assertTrue(all(one <= other for one, other in zip(lay, told)))

    def test_each_tuple_is_refused_as_a_lay_is_or_let_by(self):
        for section in (("ann", 1, 1, ("a",)), ("ann", 2, 1, ("ab", "c")), ("ann", 1, 3, ("a", "bc"))):
            for width, lines in product((2, 3, 5), range(5)):
                for thing in product(range(-1, len(section[3]) + 2), repeat=lines):
                    self.check(section, thing, width)

    def check(self, section, thing, width):
        try:
            lets_lay(section, thing, width)
        except NoPaper as refusal:
            self.check_no_paper(refusal.word, refusal.at, lets_bent, section, thing, width)
            return
        self.assertEqual(first_to_take_more(section, thing, width) is None, thing == bent(section, width))

    def test_by_more_room_or_fewer_words_no_more_lines(self):
        for section in small_sections(3, (1, 2, 3), (1, 2, 4)):
            name, high, wide, words = section
            for width in WIDTHS:
                try:
                    lines = len(bent(section, width))
                except NoLay:
                    continue
                others = [(section, width + 1), ((name, max(1, high - 1), wide, words), width),
                          ((name, high, max(1, wide - 1), words), width),
                          ((name, high, wide, words[:-1] or words), width)]
                for other, most in others:
                    self.assertLessEqual(lets_bent(other, bent(other, most), most), lines)
