"""The checker of LAYS [4], [13]."""

import copy
import unittest
from itertools import product

from leftspaces.bending import bent
from leftspaces.errors import NoPaper
from leftspaces.laychecker import lets_lay
from tests.refusals import Refusals
from tests.things import ODD, SIXTY, all_lays, as_lists, deep, fits_room, is_lay, small_sections, swapped

ANN = ("ann", 3, 4, ("nn", "was", "old"))
BOB = ("bob", 1, 2, ("ob", "is", "a", "boy"))


def first_fault(section, thing, width):
    """Why numbers are no LAY, as [13] tells it: the first of all that is wrong, or None."""
    _, high, wide, words = section
    lines = len(thing)
    wrong = []
    for i, (ahead, many) in enumerate(zip((0,) + thing, thing)):
        room = max(0, width - (wide if i < high else 0))
        wrong += [("falls", i)] * (many < ahead)
        wrong += [("words", i)] * (many > len(words))
        wrong += [("room", i)] * (0 <= ahead <= many and not fits_room(words[ahead:many], room))
    wrong += [("words", lines)] * (lines == 0 or thing[-1] < len(words))
    wrong += [("high", lines)] * (lines < high)
    wrong += [("void", lines)] * (lines > high and thing[-1] == ((0, 0) + thing)[-2])
    return wrong[0] if wrong else None


class Let(unittest.TestCase):
    def told(self, section, thing, width, expected):
        lines = lets_lay(section, thing, width)
        self.assertEqual(lines, expected)
        self.assertIs(lines.__class__, int)

    def test_how_many_lines(self):
        self.told(ANN, (1, 2, 3), 9, 3)
        self.told(ANN, (3, 3, 3), 30, 3)
        self.told(ANN, (0, 0, 0, 3), 30, 4)
        self.told(BOB, (4,), 30, 1)
        self.told(BOB, (1, 2, 3, 4), 5, 4)

    def test_void_lines(self):
        for lay in ((0, 0, 3), (0, 3, 3), (3, 3, 3), (0, 1, 3), (1, 1, 3), (0, 0, 0, 0, 0, 3), (1, 1, 1, 2, 2, 2, 3)):
            self.told(ANN, lay, 30, len(lay))

    def test_as_long_as_the_space_is_high_and_longer(self):
        self.told(("ann", 5, 1, ("nn",)), (1, 1, 1, 1, 1), 30, 5)
        self.told(("ann", 5, 1, ("nn",)), (0, 0, 0, 0, 1), 30, 5)
        self.told(("ann", 5, 1, ("nn",)), (0, 0, 0, 0, 0, 1), 30, 6)
        self.told(("ann", 1, 1, ("nn",)), (0,) * 200 + (1,), 30, 201)

    def test_a_line_that_just_fits(self):
        self.told(ANN, (3, 3, 3), 14, 3)
        self.told(ANN, (0, 0, 0, 3), 10, 4)
        self.told(ANN, (1, 2, 3), 7, 3)

    def test_a_width_left_out_is_thirty(self):
        section = ("ann", 1, 1, ("a",) * 16)
        self.assertEqual(lets_lay(section, (1, 16)), 2)
        for lay in ((16,), (0, 16)):
            with self.assertRaises(NoPaper):
                lets_lay(section, lay)
            self.assertEqual(lets_lay(section, lay, 32), len(lay))

    def test_by_names(self):
        self.assertEqual(lets_lay(section=ANN, thing=(1, 2, 3), width=9), 3)

    def test_a_section_of_a_thousand_words(self):
        section = ("ann", 1, 1, ("word",) * 1000)
        self.told(section, tuple(range(1, 1001)), 5, 1000)
        self.told(section, bent(section, 9), 9, len(bent(section, 9)))
        self.told(section, (0,) * 4999 + (1000,), 5000, 5000)

    def test_bent_is_let_by(self):
        for section in small_sections():
            for width in (3, 4, 6):
                lay = bent(section, width)
                self.told(section, lay, width, len(lay))

    def test_each_lay_is_let_by(self):
        for section in small_sections(3, (1, 2), (1, 3)):
            for width in (3, 5):
                for lay in all_lays(section, width):
                    self.told(section, lay, width, len(lay))


class Refused(Refusals, unittest.TestCase):
    def refuses(self, word, at, section, thing, width=30):
        before = copy.deepcopy(thing)
        self.check_no_paper(word, at, lets_lay, section, thing, width)
        self.assertEqual(repr(thing), repr(before))

    def test_no_tuple_of_numbers(self):
        for thing in ODD + ([1, 2, 3], (1, 2, "3"), (1, None, 3), (1, (2,), 3), (1, 2, True), (False, 3, 3), "123", 3,
                            {1: 2}, ANN, as_lists(ANN), ((1, 2, 3),), (1, 2, 3, [3]), deep(3, 30, tuple),
                            deep(3, 30, list)):
            if thing != ():
                self.refuses("shape", -1, ANN, thing)

    def test_an_odd_thing_in_the_place_of_a_number(self):
        for odd in ODD:
            for thing in swapped((1, 2, 3), odd):
                if thing != ():
                    self.refuses("shape", -1, ANN, thing)

    def test_a_line_below_the_one_ahead(self):
        self.refuses("falls", 0, ANN, (-1, 2, 3))
        self.refuses("falls", 0, ANN, (-SIXTY, 2, 3))
        self.refuses("falls", 1, ANN, (2, 1, 3))
        self.refuses("falls", 2, ANN, (1, 3, 2))
        self.refuses("falls", 3, ANN, (3, 3, 3, 0))
        self.refuses("falls", 1, ANN, (0, -1, 3))

    def test_a_line_above_all_words(self):
        self.refuses("words", 0, ANN, (4, 4, 4))
        self.refuses("words", 1, ANN, (3, 4, 4))
        self.refuses("words", 2, ANN, (1, 2, SIXTY))

    def test_a_line_that_does_not_fit(self):
        self.refuses("room", 0, ANN, (3, 3, 3), 13)
        self.refuses("room", 1, ANN, (0, 3, 3), 13)
        self.refuses("room", 2, ANN, (0, 0, 3), 13)
        self.refuses("room", 3, ANN, (0, 0, 0, 3), 9)
        self.refuses("room", 1, ANN, (1, 2, 3), 6)

    def test_a_word_longer_than_the_room_beside_the_space(self):
        section = ("ann", 2, 3, ("nn", "was"))
        self.refuses("room", 0, section, (2, 2), 5)
        self.refuses("room", 1, section, (1, 2), 5)
        self.assertEqual(lets_lay(section, (1, 1, 2), 5), 3)
        for wide in (5, 6, SIXTY):
            self.refuses("room", 0, ("ann", 1, wide, ("a",)), (1,), 5)
            self.assertEqual(lets_lay(("ann", 1, wide, ("a",)), (0, 1), 5), 2)

    def test_too_few_words(self):
        self.refuses("words", 3, ANN, (1, 2, 2))
        self.refuses("words", 3, ANN, (0, 0, 0))
        self.refuses("words", 4, ANN, (1, 1, 1, 2))

    def test_no_line(self):
        self.refuses("words", 0, ANN, ())

    def test_too_few_lines(self):
        self.refuses("high", 1, ANN, (3,))
        self.refuses("high", 2, ANN, (1, 3))
        self.refuses("high", 2, ANN, (3, 3))
        self.refuses("high", 3, ("ann", SIXTY, 1, ("nn",)), (0, 1, 1))

    def test_a_void_line_behind_all(self):
        self.refuses("void", 4, ANN, (3, 3, 3, 3))
        self.refuses("void", 4, ANN, (1, 2, 3, 3))
        self.refuses("void", 6, ANN, (0, 0, 0, 0, 3, 3))
        self.refuses("void", 2, BOB, (4, 4))
        self.assertEqual(lets_lay(ANN, (1, 3, 3)), 3)

    def test_shape_goes_ahead_of_all(self):
        self.refuses("shape", -1, ANN, (-1, 9, None))
        self.refuses("shape", -1, ANN, (9, True))
        self.refuses("shape", -1, ANN, (3, 3, 3, 3, "a"))

    def test_line_goes_by_line(self):
        self.refuses("room", 0, ANN, (3, 1, 9), 13)
        self.refuses("falls", 1, ANN, (2, 1, 9))
        self.refuses("words", 0, ANN, (9, 1, 3))
        self.refuses("falls", 0, ANN, (-1, 9, 3))
        self.refuses("words", 1, ANN, (0, 9, -1))

    def test_too_many_words_go_ahead_of_room(self):
        self.refuses("words", 0, ANN, (9, 9, 9), 5)
        self.refuses("words", 2, ANN, (0, 0, 4), 5)

    def test_lines_go_ahead_of_what_is_behind_all(self):
        self.refuses("falls", 1, ANN, (2, 1))
        self.refuses("room", 0, ANN, (2,), 9)
        self.refuses("words", 0, ANN, (4,))
        self.refuses("room", 3, ANN, (0, 0, 0, 3, 3), 9)

    def test_the_order_behind_all(self):
        self.refuses("words", 2, ANN, (1, 2))
        self.refuses("words", 5, ANN, (1, 2, 2, 2, 2))
        self.refuses("words", 1, BOB, (0,))

    def test_large_things(self):
        self.refuses("falls", 0, ANN, (-1,) * 5000)
        self.refuses("words", 5000, ANN, (0,) * 5000)
        self.refuses("void", 5000, ANN, (0,) * 4000 + (3,) * 1000)
        self.refuses("shape", -1, ANN, [1] * 5000)
        self.refuses("shape", -1, ANN, (1,) * 4999 + ("1",))
        self.refuses("words", 0, ANN, (SIXTY,) * 1000)


class EachTuple(Refusals, unittest.TestCase):
    def test_of_small_numbers(self):
        for section in (("ann", 1, 1, ("a",)), ("ann", 2, 1, ("ab", "c")), ("ann", 1, 3, ("a", "bc"))):
            for width in (2, 3, 5):
                for lines in range(5):
                    for thing in product(range(-1, len(section[3]) + 2), repeat=lines):
                        self.check(section, thing, width)

    def check(self, section, thing, width):
        fault = first_fault(section, thing, width)
        self.assertEqual(fault is None, len(thing) > 0 and is_lay(section, thing, width))
        if fault is None:
            self.assertEqual(lets_lay(section, thing, width), len(thing))
        else:
            self.check_no_paper(*fault, lets_lay, section, thing, width)
