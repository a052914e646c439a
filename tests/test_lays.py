"""The words of a line [4], [12]."""

import unittest

from leftspaces.bending import bent
from leftspaces.errors import NoPlace
from leftspaces.lays import line_words
from tests.things import SIXTY, all_lays, small_sections

ANN = ("ann", 3, 4, ("nn", "was", "old"))


class LineWords(unittest.TestCase):
    def test_each_line(self):
        lay = (1, 2, 3)
        self.assertEqual([line_words(ANN, lay, i) for i in range(3)], [("nn",), ("was",), ("old",)])
        self.assertEqual(line_words(ANN, (3, 3, 3), 0), ("nn", "was", "old"))
        self.assertEqual(line_words(ANN, (1, 3, 3), 1), ("was", "old"))

    def test_a_void_line(self):
        lay = (0, 2, 2, 3)
        self.assertEqual([line_words(ANN, lay, i) for i in range(4)], [(), ("nn", "was"), (), ("old",)])

    def test_the_last_line(self):
        self.assertEqual(line_words(ANN, (0, 0, 0, 1, 3), 4), ("was", "old"))
        self.assertEqual(line_words(ANN, (3, 3, 3), 2), ())

    def test_the_line_behind_the_last(self):
        self.check_refused(ANN, (1, 2, 3), 3)
        self.check_refused(("bob", 1, 1, ("ob",)), (1,), 1)

    def test_a_line_far_out(self):
        self.check_refused(ANN, (1, 2, 3), 4)
        self.check_refused(ANN, (1, 2, 3), SIXTY)

    def test_a_line_below_nought(self):
        for i in (-1, -2, -3, -4, -SIXTY):
            self.check_refused(ANN, (1, 2, 3), i)

    def check_refused(self, section, lay, i):
        with self.assertRaises(NoPlace) as held:
            line_words(section, lay, i)
        self.assertIs(held.exception.place, i)
        self.assertEqual(held.exception.place, i)

    def test_by_names(self):
        self.assertEqual(line_words(section=ANN, lay=(1, 2, 3), i=1), ("was",))
        with self.assertRaises(NoPlace):
            line_words(i=3, lay=(1, 2, 3), section=ANN)

    def test_tells_tuples(self):
        for i in range(4):
            self.assertIs(line_words(ANN, (0, 2, 2, 3), i).__class__, tuple)

    def test_a_lay_of_whatever_width(self):
        long = ("ann", 1, 1, ("word",) * 40)
        self.assertEqual(line_words(long, (40,), 0), ("word",) * 40)

    def test_all_lines_have_all_words(self):
        for section in small_sections(3, (1, 2), (1, 3)):
            for width in (3, 4, 6):
                for lay in all_lays(section, width):
                    lines = [line_words(section, lay, i) for i in range(len(lay))]
                    self.assertEqual(sum(lines, ()), section[3])
                    self.assertEqual([sum(map(len, lines[:i + 1])) for i in range(len(lay))], list(lay))

    def test_a_lay_told_is_handed_in(self):
        lay = bent(ANN, 8)
        self.assertEqual([line_words(ANN, lay, i) for i in range(len(lay))], [("nn",), ("was",), ("old",)])
