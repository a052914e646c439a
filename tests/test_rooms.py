"""Where lines BEGIN, and their ROOM [4], [11]."""

import unittest

from leftspaces.rooms import begins, room
from tests.things import SIXTY

ANN = ("ann", 3, 4, ("nn", "was", "old"))


class Begins(unittest.TestCase):
    def test_lines_of_the_space_and_below(self):
        self.assertEqual([begins(ANN, i) for i in range(6)], [4, 4, 4, 0, 0, 0])

    def test_a_space_of_one_line(self):
        section = ("bob", 1, 7, ("ob",))
        self.assertEqual([begins(section, i) for i in range(3)], [7, 0, 0])

    def test_a_line_far_out(self):
        for i in (1000, 10 ** 9, SIXTY):
            self.assertEqual(begins(ANN, i), 0)

    def test_hangs_on_high_alone(self):
        for high in range(1, 10):
            section = ("bob", high, 20, ("ob",))
            self.assertEqual(begins(section, high - 1), 20)
            self.assertEqual(begins(section, high), 0)

    def test_by_names(self):
        self.assertEqual(begins(section=ANN, i=2), 4)


class Room(unittest.TestCase):
    def test_lines_of_the_space_and_below(self):
        self.assertEqual([room(ANN, i, 10) for i in range(5)], [6, 6, 6, 10, 10])

    def test_a_width_left_out_is_thirty(self):
        self.assertEqual([room(ANN, i) for i in range(5)], [26, 26, 26, 30, 30])

    def test_a_space_as_wide_as_the_width_or_wider(self):
        for width, beside in ((5, 1), (4, 0), (3, 0), (1, 0)):
            self.assertEqual(room(ANN, 2, width), beside)
            self.assertEqual(room(ANN, 3, width), width)

    def test_a_line_far_out(self):
        self.assertEqual(room(ANN, SIXTY, 40), 40)
        self.assertEqual(room(ANN, 10 ** 9, 1), 1)

    def test_by_names(self):
        self.assertEqual(room(section=ANN, i=0, width=12), 8)
        self.assertEqual(room(i=3, width=12, section=ANN), 12)

    def test_is_the_width_less_the_column(self):
        for wide in range(1, 8):
            for width in range(1, 8):
                section = ("bob", 2, wide, ("ob",))
                for i in range(4):
                    left = width - begins(section, i)
                    self.assertEqual(room(section, i, width), left if left > 0 else 0)
