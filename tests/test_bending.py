"""BENT [4], [14], and what [16] says of it."""

import unittest

from leftspaces.bending import bent
from leftspaces.errors import NoLay
from tests.things import SIXTY, all_lays, fits_room, is_lay, small_sections

ANN = ("ann", 3, 4, ("nn", "was", "old"))
WIDTHS = (3, 4, 5, 6, 9)


class Bent(unittest.TestCase):
    def test_lines_have_as_many_words_as_fit(self):
        self.assertEqual(bent(ANN, 30), (3, 3, 3))
        self.assertEqual(bent(ANN, 14), (3, 3, 3))
        self.assertEqual(bent(ANN, 13), (2, 3, 3))
        self.assertEqual(bent(ANN, 10), (2, 3, 3))
        self.assertEqual(bent(ANN, 9), (1, 2, 3))
        self.assertEqual(bent(ANN, 7), (1, 2, 3))

    def test_a_width_left_out_is_thirty(self):
        section = ("bob", 1, 1, ("a",) * 40)
        self.assertEqual(bent(section), (15, 30, 40))
        self.assertEqual(bent(section), bent(section, 30))
        with self.assertRaises(NoLay):
            bent(("bob", 1, 1, ("a" * 31,)))
        self.assertEqual(bent(("bob", 1, 1, ("a" * 30,))), (0, 1))

    def test_void_lines_up_to_high(self):
        self.assertEqual(bent(("bob", 5, 1, ("ob",)), 30), (1, 1, 1, 1, 1))
        self.assertEqual(bent(("bob", 1, 1, ("ob",)), 30), (1,))
        self.assertEqual(bent(("bob", 9, 1, ("ob", "is")), 4), (1, 2) + (2,) * 7)

    def test_a_word_too_long_beside_the_space_waits(self):
        self.assertEqual(bent(("ann", 2, 3, ("nn", "was", "old")), 5), (1, 1, 2, 3))
        self.assertEqual(bent(("ann", 2, 3, ("was", "old")), 5), (0, 0, 1, 2))
        self.assertEqual(bent(("ann", 3, 3, ("a", "old", "b")), 5), (1, 1, 1, 3))

    def test_a_space_as_wide_as_the_width_or_wider(self):
        for wide in (7, 8, 20, SIXTY):
            self.assertEqual(bent(("ann", 2, wide, ("nn", "was", "old")), 7), (0, 0, 2, 3))
            self.assertEqual(bent(("ann", 1, wide, ("a",)), 1), (0, 1))

    def test_a_word_just_as_long_as_the_width(self):
        self.assertEqual(bent(("ann", 1, 1, ("abcd", "a", "abcd")), 4), (0, 1, 2, 3))
        self.assertEqual(bent(("ann", 1, 1, ("abcdefgh",)), 8), (0, 1))

    def test_a_blank_between_neighbours_counts(self):
        section = ("ann", 1, 1, ("ab", "cd", "e"))
        self.assertEqual(bent(section, 5), (1, 3))
        self.assertEqual(bent(section, 6), (2, 3))
        self.assertEqual(bent(section, 7), (2, 3))
        self.assertEqual(bent(section, 8), (3,))

    def test_by_names(self):
        self.assertEqual(bent(section=ANN, width=9), (1, 2, 3))

    def test_tells_a_tuple_of_numbers(self):
        told = bent(ANN, 9)
        self.assertIs(told.__class__, tuple)
        self.assertTrue(all(many.__class__ is int for many in told))

    def test_of_a_thousand_words(self):
        self.assertEqual(bent(("ann", 1, 1, ("word",) * 1000), 9), (1,) + tuple(range(3, 1000, 2)) + (1000,))


class Refused(unittest.TestCase):
    def check_refused(self, section, width, number):
        with self.assertRaises(NoLay) as held:
            bent(section, width)
        self.assertEqual(held.exception.word, number)
        self.assertIs(held.exception.word.__class__, int)

    def test_a_word_one_longer(self):
        self.check_refused(("ann", 1, 1, ("abcd",)), 3, 0)
        self.check_refused(("ann", 1, 1, ("abc", "abcd")), 3, 1)
        self.check_refused(("ann", 9, 20, ("a", "abc", "abcd", "a")), 3, 2)

    def test_the_first_such_word(self):
        self.check_refused(("ann", 1, 1, ("a", "abcd", "abcdefgh", "abcd")), 3, 1)
        self.check_refused(("ann", 1, 1, ("ab", "a", "ab")), 1, 0)
        self.check_refused(("ann", 1, 1, ("a",) * 39 + ("ab",)), 1, 39)

    def test_what_is_handed_in_is_as_it_was(self):
        section = ("ann", 1, 1, ("a", "abcd"))
        self.check_refused(section, 3, 1)
        self.assertEqual(section, ("ann", 1, 1, ("a", "abcd")))


class AgainstAllLays(unittest.TestCase):
    def test_is_the_lay_in_which_each_line_has_as_many_as_fit(self):
        for section in small_sections():
            for width in WIDTHS:
                lay = bent(section, width)
                self.assertTrue(is_lay(section, lay, width), (section, width, lay))
                self.check_full(section, lay, width)

    def check_full(self, section, lay, width):
        _, high, wide, words = section
        ahead = 0
        for i, many in enumerate(lay):
            room = max(0, width - wide) if i < high else width
            if many < len(words):
                self.assertFalse(fits_room(words[ahead:many + 1], room), (section, width, lay))
            ahead = many

    def test_no_lay_has_fewer_lines_or_more_words_behind_a_line(self):
        for section in small_sections(3):
            for width in (3, 4, 6):
                best = bent(section, width)
                lays = list(all_lays(section, width))
                self.assertIn(best, lays)
                for lay in lays:
                    self.assertGreaterEqual(len(lay), len(best))
                    self.assertTrue(all(one >= other for one, other in zip(best, lay)), (section, width, lay))

    def test_never_more_lines_by_what_is_less(self):
        for section in small_sections():
            name, high, wide, words = section
            for width in WIDTHS:
                many = len(bent(section, width))
                less = [len(bent(section, width + more)) for more in (1, 2, 5, 30)]
                if high > 1:
                    less.append(len(bent((name, high - 1, wide, words), width)))
                if wide > 1:
                    less.append(len(bent((name, high, wide - 1, words), width)))
                if len(words) > 1:
                    less.append(len(bent((name, high, wide, words[:-1]), width)))
                self.assertLessEqual(max(less), many, (section, width))
