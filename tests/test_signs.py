"""SIGNS, their places in a LAY, and the LINES as texts [17], [18], [19]."""

import unittest

from leftspaces.bending import bent
from leftspaces.errors import NoPlace
from leftspaces.lays import line_words
from leftspaces.rooms import begins
from leftspaces.signs import lines_text, many_signs, place_of, sign_at
from tests.refusals import Refusals
from tests.things import SIXTY, all_lays, small_sections

ANN = ("ann", 2, 4, ("nn", "was", "old", "as", "a", "hill"))
LAY = (1, 2, 5, 6)
# ####nn
# ####was
# old as a
# hill
WIDE = ("bob", 2, 9, ("ob", "x"))


class Asks(Refusals):
    """What a test of SIGNS asks."""

    def place(self, section, lay, k, expected):
        before = repr((section, lay))
        self.assertEqual(repr(place_of(section, lay, k)), repr(expected))
        self.assertEqual(repr((section, lay)), before)

    def sign(self, section, lay, line, column, expected):
        before = repr((section, lay))
        self.assertEqual(repr(sign_at(section, lay, line, column)), repr(expected))
        self.assertEqual(repr((section, lay)), before)

    def lines(self, section, lay, width, *expected):
        before = repr((section, lay))
        self.assertEqual(repr(lines_text(section, lay, width)), repr(expected))
        self.assertEqual(repr((section, lay)), before)


class ManySigns(unittest.TestCase):
    def test_the_letters_of_the_words(self):
        self.assertEqual(many_signs(ANN), 15)
        self.assertEqual(many_signs(("ann", 9, 20, ("a",))), 1)
        self.assertEqual(many_signs(section=("ann", 1, 1, ("a", "b", "cd"))), 4)

    def test_large(self):
        self.assertEqual(many_signs(("ann", 1, 1, ("abcdefgh",) * 40)), 320)
        self.assertEqual(many_signs(("ann", SIXTY, SIXTY, ("ab",) * 1000)), 2000)


class PlaceOf(Asks, unittest.TestCase):
    def test_beside_the_space_and_below_it(self):
        for k, expected in ((0, (0, 4)), (1, (0, 5)), (2, (1, 4)), (4, (1, 6)), (5, (2, 0)), (7, (2, 2)), (8, (2, 4)),
                            (9, (2, 5)), (10, (2, 7)), (11, (3, 0)), (14, (3, 3))):
            self.place(ANN, LAY, k, expected)

    def test_void_lines(self):
        self.place(ANN, (0, 0, 6), 0, (2, 0))
        self.place(ANN, (0, 1, 1, 1, 6), 1, (1, 5))
        self.place(ANN, (0, 1, 1, 1, 6), 2, (4, 0))
        self.place(WIDE, (0, 0, 2), 2, (2, 3))

    def test_a_lay_of_whatever_width(self):
        self.place(ANN, (6, 6), 14, (0, 23))
        self.place(WIDE, (1, 2), 1, (0, 10))
        self.place(WIDE, (1, 2), 2, (1, 9))

    def test_no_such_sign(self):
        for k in (-1, -2, -15, -SIXTY, 15, 16, SIXTY):
            self.check_refused(NoPlace, [k], place_of, ANN, LAY, k)
        self.check_refused(NoPlace, [1], place_of, ("ann", 1, 1, ("a",)), (1,), 1)

    def test_by_names(self):
        self.assertEqual(place_of(k=5, lay=LAY, section=ANN), (2, 0))


class SignAt(Asks, unittest.TestCase):
    def test_where_a_sign_stands(self):
        for line, column, k in ((0, 4, 0), (0, 5, 1), (1, 4, 2), (1, 6, 4), (2, 0, 5), (2, 4, 8), (2, 7, 10), (3, 3, 14)):
            self.sign(ANN, LAY, line, column, k)

    def test_in_the_space(self):
        for line in (0, 1):
            for column in range(4):
                self.sign(ANN, LAY, line, column, None)
        for column in range(9):
            self.sign(WIDE, (0, 0, 2), 1, column, None)

    def test_at_a_blank(self):
        self.sign(ANN, LAY, 2, 3, None)
        self.sign(ANN, LAY, 2, 6, None)
        self.sign(ANN, (6, 6), 0, 6, None)

    def test_behind_the_words_of_a_line(self):
        for line, column in ((0, 6), (1, 7), (2, 8), (3, 4), (3, 29), (0, SIXTY), (3, SIXTY)):
            self.sign(ANN, LAY, line, column, None)

    def test_a_void_line(self):
        for column in range(12):
            self.sign(WIDE, (0, 0, 2), 0, column, None)
            self.sign(ANN, (0, 1, 1, 1, 6), 2, column, None)

    def test_below_nought_and_beyond_all(self):
        for line, column in ((-1, 0), (-1, 4), (-2, 0), (0, -1), (2, -1), (2, -8), (-1, -1), (4, 0), (5, 0), (SIXTY, 0),
                             (-SIXTY, 0), (0, -SIXTY), (-4, 4)):
            self.sign(ANN, LAY, line, column, None)

    def test_by_names(self):
        self.assertEqual(sign_at(column=4, line=0, lay=LAY, section=ANN), 0)


class LinesText(Asks, unittest.TestCase):
    def test_of_a_lay(self):
        self.lines(ANN, LAY, 9, "####nn   ", "####was  ", "old as a ", "hill     ")
        self.lines(ANN, LAY, 8, "####nn  ", "####was ", "old as a", "hill    ")

    def test_void_lines(self):
        self.lines(ANN, (0, 2, 2, 6), 15, "####           ", "####nn was     ", "               ", "old as a hill  ")

    def test_a_space_as_wide_as_the_width_or_wider(self):
        self.lines(WIDE, (0, 0, 2), 9, "#########", "#########", "ob x     ")
        self.lines(WIDE, (0, 0, 2), 5, "#########", "#########", "ob x ")
        self.lines(WIDE, (0, 0, 1, 2), 2, "#########", "#########", "ob", "x ")

    def test_a_width_left_out_is_thirty(self):
        self.assertEqual(lines_text(ANN, LAY), lines_text(ANN, LAY, 30))
        self.assertEqual([len(text) for text in lines_text(ANN, LAY)], [30] * 4)
        self.assertEqual(lines_text(("ann", 1, 1, ("a",)), (1,)), ("#a" + " " * 28,))

    def test_as_large_as_may_be(self):
        section = ("ann", 9, 20, ("abcdefgh",) * 40)
        told = lines_text(section, bent(section, 40), 40)
        self.assertEqual(told[0], "#" * 20 + "abcdefgh abcdefgh   ")
        self.assertEqual(told[9], "abcdefgh abcdefgh abcdefgh abcdefgh     ")

    def test_by_names(self):
        self.assertEqual(lines_text(width=9, lay=LAY, section=ANN)[0], "####nn   ")


class EachAtItsPlace(unittest.TestCase):
    def test_small_sections(self):
        for section in small_sections(3, (1, 2), (1, 2, 4)):
            for width in (3, 5):
                for lay in all_lays(section, width):
                    self.check(section, lay, width)

    def check(self, section, lay, width):
        signs = "".join(section[3])
        self.assertEqual(many_signs(section), len(signs))
        places = [place_of(section, lay, k) for k in range(len(signs))]
        # Places rise as SIGNS do, so no two are at one.
        self.assertTrue(all(one < other for one, other in zip(places, places[1:])))
        texts = lines_text(section, lay, width)
        self.assertEqual(len(texts), len(lay))
        for line, text in enumerate(texts):
            begin = begins(section, line)
            self.assertEqual(len(text), max(width, begin))
            self.assertEqual(text[:begin], "#" * begin)
            self.assertEqual(text[begin:].rstrip(" "), " ".join(line_words(section, lay, line)))
            for column, sign in enumerate(text):
                k = sign_at(section, lay, line, column)
                if (line, column) in places:
                    self.assertEqual(places.index((line, column)), k)
                    self.assertEqual(sign, signs[k])
                    self.assertGreaterEqual(column, begin)
                else:
                    self.assertIsNone(k)
                    self.assertEqual(sign, "#" if column < begin else " ")
