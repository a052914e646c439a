"""Lines ANEW where a letter grows, and the fewest there can be [55], [56], [57], [59]."""

import copy
import unittest

from leftspaces.anew import anew_lines, fewest_anew
from leftspaces.anewchecker import lets_anew
from leftspaces.bending import bent
from leftspaces.errors import NoLay
from tests.growing import dear_line, fewest, line_numbers, lines_anew, resize, small_growths
from tests.refusals import Refusals
from tests.things import SIXTY, all_lays, is_lay

ANN = ("ann", 3, 4, ("nn", "was", "old"))
AAAA = ("ann", 1, 2, ("a", "a", "a", "a"))
LONG = ("ann", 3, 4, ("nn", "was", "old", "and", "kind", "and", "went", "home") * 5)


class AnewLines(unittest.TestCase):
    def told(self, expected, *args):
        told = anew_lines(*args)
        self.assertEqual(told, expected, args)
        self.assertIs(told.__class__, tuple)
        self.assertEqual(told, lines_anew(*args))

    def test_nothing_where_all_is_as_it_was(self):
        for lay in ((1, 2, 3), (3, 3, 3), (0, 0, 0, 3), (0, 1, 1, 1, 3)):
            self.told((), ANN, lay, 3, 4, lay)

    def test_other_words(self):
        self.told((1, 2), ANN, (1, 2, 3), 3, 4, (1, 3, 3))
        self.told((0, 1), ANN, (1, 2, 3), 3, 4, (2, 2, 3))
        self.told((0, 1, 2), ANN, (1, 2, 3), 3, 4, (0, 3, 3))

    def test_another_column(self):
        self.told((0, 1, 2), ANN, (1, 2, 3), 3, 5, (1, 2, 3))
        self.told((2,), ANN, (1, 2, 3), 2, 4, (1, 2, 3))
        self.told((3,), ANN, (1, 1, 2, 3), 4, 4, (1, 1, 2, 3))
        self.told((2,), ANN, (0, 0, 2, 2, 3), 2, 9, (0, 0, 2, 2, 3))

    def test_the_same_column_by_another_size(self):
        self.told((), ANN, (1, 2, 2, 3), 3, 4, (1, 2, 2, 3))
        self.told((3,), ANN, (1, 2, 2, 3), 4, 4, (1, 2, 2, 3))
        self.told((), ("ann", 1, 2, ("a",)), (0, 0, 1), 2, 2, (0, 0, 1))
        self.told((), ("ann", 2, 2, ("a",)), (0, 0, 1), 1, 7, (0, 0, 1))

    def test_void_in_both_wherever_it_begins(self):
        self.told((), ANN, (0, 0, 0, 3), 3, 9, (0, 0, 0, 3))
        self.told((0, 2), ANN, (1, 1, 3), 1, 9, (1, 1, 3))
        self.told((0, 2), ANN, (1, 1, 3), 3, 4, (2, 2, 3))

    def test_void_in_one_alone(self):
        self.told((0, 1), ANN, (0, 3, 3), 3, 4, (3, 3, 3))
        self.told((1, 2), ANN, (1, 1, 3), 3, 4, (1, 3, 3))

    def test_lines_behind_a_lay_are_void(self):
        self.told((0, 1), ("ann", 1, 1, ("a", "b")), (1, 2), 1, 1, (2,))
        self.told((0, 1), ("ann", 1, 1, ("a", "b")), (2,), 1, 1, (1, 2))
        self.told((0,), ("ann", 1, 1, ("a", "b")), (2,), 5, 2, (2, 2, 2, 2, 2))
        self.told((0,), ("ann", 5, 2, ("a", "b")), (2, 2, 2, 2, 2), 1, 1, (2,))
        self.told((0, 6), ("ann", 1, 1, ("a",)), (1,), 1, 1, (0, 0, 0, 0, 0, 0, 1))
        self.told((0, 6), ("ann", 1, 1, ("a",)), (0, 0, 0, 0, 0, 0, 1), 1, 1, (1,))

    def test_like_words_are_not_the_same_words(self):
        section = ("ann", 1, 1, ("a", "a", "a", "a"))
        self.told((0, 1, 2), section, (1, 2, 4), 1, 1, (2, 3, 4))
        self.told((0, 1, 2, 3), section, (1, 2, 3, 4), 1, 1, (0, 1, 2, 4))

    def test_the_same_words_on_another_line(self):
        self.told((0, 1, 2, 3), ANN, (1, 2, 3), 3, 4, (0, 1, 2, 3))

    def test_whether_lines_fit_is_not_asked(self):
        section = ("ann", 2, 20, ("abcdefgh",) * 40)
        self.told((0,), section, (40, 40), 1, 1, (40,))
        self.told((0, 1, 3), section, (39, 39, 39, 40), 2, 1, (39, 40))

    def test_by_names(self):
        self.assertEqual(anew_lines(section=ANN, lay=(1, 2, 3), high=2, wide=4, newer=(1, 2, 3)), (2,))

    def test_as_many_from_the_one_as_back(self):
        for section, lay, high, wide, width in small_growths(150, 59):
            other = resize(section, high, wide)
            for newer in all_lays(other, width, 5):
                there = anew_lines(section, lay, high, wide, newer)
                self.assertEqual(there, lines_anew(section, lay, high, wide, newer))
                self.assertEqual(there, anew_lines(other, newer, section[1], section[2], lay))


class Answers(Refusals):
    """What a test of the fewest lines ANEW asks."""

    def check_paper(self, told, section, lay, high, wide, width, most):
        """What is told has a LAY with so many lines ANEW, and PRICES by which none has fewer; most is a NUMBER."""
        number, newer, prices = told
        self.assertTrue(is_lay(resize(section, high, wide), newer, width), told)
        self.assertLessEqual(len(newer), most)
        self.assertEqual(len(lines_anew(section, lay, high, wide, newer)), number)
        self.assertEqual([len(row) for row in prices], [len(section[3]) + 1] * (max(most, len(lay)) + 1))
        self.assertIsNone(dear_line(section, lay, high, wide, width, most, prices))
        self.assertEqual(prices[0][0] - prices[-1][-1], number)
        self.assertEqual([thing.__class__ for thing in (told, *told)], [tuple, int, tuple, tuple])
        self.assertEqual({row.__class__ for row in prices}, {tuple})
        self.assertEqual({thing.__class__ for row in prices + (newer,) for thing in row}, {int})

    def check_fewest(self, section, lay, high, wide, width=30, most=None):
        """What is told is right, and let by; told is the number."""
        args = (section, lay, high, wide, width, most)
        before = copy.deepcopy(args)
        told = fewest_anew(*args)
        self.assertEqual(repr(args), repr(before))
        if most is None:
            most = max(len(bent(resize(section, high, wide), width)), len(lay))
        self.check_paper(told, section, lay, high, wide, width, most)
        self.assertEqual(lets_anew(section, lay, high, wide, told, width, args[-1]), told[0])
        return told[0]

    def check_no_lay(self, word, *args):
        """Refused so, whatever is handed in as a paper, too."""
        self.check_refused(NoLay, (word,), fewest_anew, *args)
        for thing in ((0, (1,), ()), None, (), SIXTY):
            self.check_refused(NoLay, (word,), lets_anew, *args[:4], thing, *args[4:])


class Fewest(Answers, unittest.TestCase):
    def test_the_same_size_again(self):
        for lay in ((1, 2, 3), (1, 3, 3), (0, 0, 1, 3), (0, 0, 0, 0, 0, 3)):
            told = fewest_anew(ANN, lay, 3, 4, 11)
            self.assertEqual(told[:2], (0, lay))
            self.assertEqual(self.check_fewest(ANN, lay, 3, 4, 11), 0)
            self.assertEqual(self.check_fewest(ANN, lay, 3, 4, 11, len(lay)), 0)

    def test_the_same_size_by_a_width_or_a_most_that_lets_it_not(self):
        self.assertEqual(self.check_fewest(ANN, (1, 3, 3), 3, 4, 10), 2)
        self.assertEqual(self.check_fewest(ANN, (0, 0, 0, 3), 3, 4, 11, 3), 3)

    def test_a_letter_that_grows(self):
        self.assertEqual(self.check_fewest(ANN, (1, 2, 3), 2, 4, 9), 1)
        self.assertEqual(self.check_fewest(ANN, (1, 2, 3), 3, 5, 9), 3)
        self.assertEqual(self.check_fewest(ANN, (1, 2, 3), 4, 4, 9), 0)
        self.assertEqual(self.check_fewest(ANN, (0, 0, 0, 3), 2, 9, 10), 0)

    def test_not_the_fewest_lines(self):
        self.assertEqual(bent(resize(AAAA, 1, 1), 4), (2, 4))
        told = fewest_anew(AAAA, (1, 3, 4), 1, 1, 4)
        self.assertEqual(told[:2], (1, (1, 3, 4)))
        self.assertEqual(self.check_fewest(AAAA, (1, 3, 4), 1, 1, 4), 1)
        self.assertEqual(self.check_fewest(AAAA, (1, 3, 4), 1, 1, 4, 2), 3)

    def test_a_line_behind_a_kept_one_need_not_be_kept(self):
        told = fewest_anew(("ann", 1, 1, ("a",) * 4), (2, 4), 2, 1, 4)
        self.assertEqual(told[:2], (1, (2, 4)))

    def test_lines_that_are_scraped_alone(self):
        self.assertEqual(self.check_fewest(ANN, (1, 2, 3), 1, 1, 30, 1), 3)
        self.assertEqual(self.check_fewest(ANN, (0, 0, 0, 1, 2, 3), 1, 1, 30, 1), 4)
        self.assertEqual(self.check_fewest(ANN, (0, 0, 0, 1, 2, 3), 1, 1, 30, 2), 4)

    def test_void_lines_beside_the_space(self):
        self.assertEqual(self.check_fewest(("bob", 1, 1, ("ob",)), (1,), 5, 1), 0)
        self.assertEqual(self.check_fewest(("bob", 1, 1, ("ob",)), (1,), 5, 2), 1)
        self.assertEqual(fewest_anew(("bob", 1, 1, ("ob",)), (1,), 5, 1)[1], (1,) * 5)
        self.assertEqual(self.check_fewest(("bob", 5, 1, ("ob",)), (0, 0, 0, 1, 1), 2, 1), 1)

    def test_words_longer_than_the_room_beside_the_space(self):
        section = ("ann", 1, 1, ("nn", "was", "old"))
        self.assertEqual(self.check_fewest(section, (1, 2, 3), 2, 3, 5), 4)
        self.assertEqual(self.check_fewest(section, (0, 0, 1, 2, 3), 2, 20, 5), 0)
        self.assertEqual(self.check_fewest(section, (0, 0, 1, 2, 3), 5, 20, 5), 6)

    def test_a_width_and_a_most_left_out(self):
        section = ("ann", 1, 1, ("a",) * 16)
        self.assertEqual(fewest_anew(section, (1, 16), 1, 2), fewest_anew(section, (1, 16), 1, 2, 30, None))
        self.assertEqual(self.check_fewest(section, (1, 16), 1, 2), 1)
        self.assertEqual(fewest_anew(ANN, (1, 2, 3), 2, 4, 9), fewest_anew(ANN, (1, 2, 3), 2, 4, most=3, width=9))

    def test_by_names(self):
        told = fewest_anew(section=ANN, lay=(1, 2, 3), high=4, wide=4, width=9, most=5)
        self.check_paper(told, ANN, (1, 2, 3), 4, 4, 9, 5)

    def test_as_large_as_may_be(self):
        for elder in (8, 12, 40):
            lay = bent(LONG, elder)
            for high, wide in ((3, 4), (9, 20), (1, 1), (4, 4), (3, 5)):
                for width in (4, 9, 12, 40):
                    numbers = [self.check_fewest(LONG, lay, high, wide, width)]
                    least = len(bent(resize(LONG, high, wide), width))
                    numbers += [self.check_fewest(LONG, lay, high, wide, width, least + more) for more in (0, 1, 20)]
                    self.assertEqual(numbers[1:], sorted(numbers[1:], reverse=True))

    def test_a_lay_of_many_void_lines(self):
        lay = (0,) * 100 + (1, 1, 1, 3)
        self.assertEqual(self.check_fewest(ANN, lay, 9, 20, 30), 0)
        self.assertEqual(self.check_fewest(ANN, lay, 9, 20, 30, 50), 3)
        self.assertEqual(self.check_fewest(ANN, (1, 2, 3), 3, 4, 9, 300), 0)


class Most(Answers, unittest.TestCase):
    def test_none_is_as_many_as_bent_or_the_elder_lay_has(self):
        for lay, lines in (((1, 2, 3), 3), ((3, 3, 3), 3), ((0, 0, 0, 0, 3), 5)):
            told = fewest_anew(ANN, lay, 2, 4, 9)
            self.assertEqual(len(told[2]), lines + 1)
            self.assertEqual(told, fewest_anew(ANN, lay, 2, 4, 9, lines))
        self.assertEqual(len(fewest_anew(ANN, (3, 3, 3), 9, 1)[2]), 10)

    def test_nought_and_below_high(self):
        for most in (0, 1, 2):
            self.check_no_lay("most", ANN, (1, 2, 3), 3, 4, 30, most)
        self.check_no_lay("most", ANN, (3, 3, 3), 9, 1, 30, 8)
        self.check_no_lay("most", ("a", 1, 1, ("a",)), (1,), 1, 1, 30, 0)

    def test_just_enough_and_one_fewer(self):
        for section, lay, high, wide, width in small_growths(60, 56):
            least = len(bent(resize(section, high, wide), width))
            self.check_no_lay("most", section, lay, high, wide, width, least - 1)
            self.check_fewest(section, lay, high, wide, width, least)

    def test_fewer_than_the_elder_lay_has(self):
        lay = (0, 0, 0, 1, 2, 3)
        told = [self.check_fewest(ANN, lay, 3, 4, 9, most) for most in (3, 4, 5, 6, 7)]
        self.assertEqual(told, [6, 4, 2, 0, 0])

    def test_a_word_longer_than_the_width(self):
        self.check_no_lay(1, ANN, (1, 2, 3), 3, 4, 2)
        self.check_no_lay(0, ANN, (1, 2, 3), 3, 4, 1)
        self.check_no_lay(2, ("ann", 1, 1, ("a", "b", "abcdefgh", "abc")), (4,), 1, 1, 7)
        for most in (0, 2, 3, 99, SIXTY):
            self.check_no_lay(1, ANN, (1, 2, 3), 3, 4, 2, most)


class SmallSections(Answers, unittest.TestCase):
    def test_no_lay_has_fewer(self):
        kept = 0
        for section, lay, high, wide, width in small_growths(250, 57):
            least = len(bent(resize(section, high, wide), width))
            for most in (least, least + 1, max(least, len(lay))):
                if most <= 6:
                    number = self.check_fewest(section, lay, high, wide, width, most)
                    self.assertEqual(number, fewest(section, lay, high, wide, width, most))
                    kept += 0 < number < len(lay)
        self.assertGreater(kept, 60)

    def test_never_more_than_bent_nor_by_a_greater_most(self):
        for section, lay, high, wide, width in small_growths(150, 58):
            best = bent(resize(section, high, wide), width)
            numbers = [fewest_anew(section, lay, high, wide, width, len(best) + more)[0] for more in range(5)]
            self.assertEqual(numbers, sorted(numbers, reverse=True))
            self.assertLessEqual(numbers[0], len(anew_lines(section, lay, high, wide, best)))

    def test_nothing_is_anew_where_the_size_is_as_it_was(self):
        for section, _, _, _, width in small_growths(40, 60):
            for lay in all_lays(section, width, 5):
                for most in (None, len(lay), len(lay) + 2):
                    told = fewest_anew(section, lay, section[1], section[2], width, most)
                    self.assertEqual(told[0], 0)
                    self.assertEqual(told[1], lay)

    def test_grown_and_grown_back(self):
        for section, lay, high, wide, width in small_growths(200, 61):
            if is_lay(section, lay, width):
                first = fewest_anew(section, lay, high, wide, width)
                most = max(len(lay), len(bent(section, width)))
                back = fewest_anew(resize(section, high, wide), first[1], section[1], section[2], width, most)
                self.assertLessEqual(back[0], first[0])

    def test_numbers_of_words_are_told_of_each_line(self):
        for section, lay, high, wide, width in small_growths(20, 62):
            newer = fewest_anew(section, lay, high, wide, width)[1]
            numbers = [number for i in range(len(newer)) for number in line_numbers(newer, i)]
            self.assertEqual(numbers, list(range(len(section[3]))))
