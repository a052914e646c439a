"""What is LEFT by a space and a LETTER, and what each space can be in all [44], [45]."""

import copy
import unittest
from itertools import product

from leftspaces.canbe import can_be, left_by, world_with
from leftspaces.errors import NoPlace
from leftspaces.worlds import world
from tests.filling import LETTERS, all_worlds, is_no, is_world, large_fillings, small_fillings
from tests.refusals import Refusals
from tests.things import SIXTY

CANS = (("a", "b"), ("a",), ("a", "b", "c"))
BILL = (("a", 2), ("b", 1))


def is_left(cans, bill, space, letter):
    """What is LEFT, as [44] tells it, or None."""
    if letter not in cans[space] or dict(bill).get(letter, 1) == 0:
        return None
    others = tuple(can for k, can in enumerate(cans) if k != space)
    return others, tuple((other, many - (other == letter)) for other, many in bill)


class LeftBy(Refusals, unittest.TestCase):
    def told(self, cans, bill, space, letter, expected):
        before = copy.deepcopy((cans, bill))
        left = left_by(cans, bill, space, letter)
        self.assertEqual(repr(left), repr(expected))
        self.assertEqual(repr((cans, bill)), repr(before))

    def test_what_is_left(self):
        self.told(CANS, BILL, 0, "a", ((("a",), ("a", "b", "c")), (("a", 1), ("b", 1))))
        self.told(CANS, BILL, 1, "a", ((("a", "b"), ("a", "b", "c")), (("a", 1), ("b", 1))))
        self.told(CANS, BILL, 2, "b", ((("a", "b"), ("a",)), (("a", 2), ("b", 0))))
        self.told((("a",),), (("a", 1),), 0, "a", ((), (("a", 0),)))

    def test_a_letter_that_is_not_billed(self):
        self.told(CANS, BILL, 2, "c", ((("a", "b"), ("a",)), BILL))
        self.told((("a",),), (), 0, "a", ((), ()))

    def test_a_letter_out_of_the_can(self):
        for letter in "cdz":
            self.told(CANS, BILL, 0, letter, None)
        self.told(CANS, BILL, 1, "b", None)
        self.told(((),), (), 0, "a", None)
        self.told(((), ("a",)), (("a", 1),), 0, "a", None)

    def test_a_letter_that_is_billed_with_many_nought(self):
        self.told(CANS, (("a", 0), ("b", 1)), 0, "a", None)
        self.told(CANS, (("a", 0), ("b", 1)), 0, "b", ((("a",), ("a", "b", "c")), (("a", 0), ("b", 0))))
        self.told(CANS, (("a", 0), ("b", 0)), 2, "c", ((("a", "b"), ("a",)), (("a", 0), ("b", 0))))

    def test_left_where_there_is_no_world(self):
        self.told((("a",), ("b",)), (("b", 2),), 1, "b", ((("a",),), (("b", 1),)))

    def test_by_names(self):
        self.assertEqual(left_by(cans=CANS, bill=BILL, space=1, letter="a")[1], (("a", 1), ("b", 1)))

    def test_small_ones(self):
        for cans, bill in small_fillings(300, 440):
            for space, letter in product(range(len(cans)), "abcdz"):
                self.told(cans, bill, space, letter, is_left(cans, bill, space, letter))


class NoSpace(Refusals, unittest.TestCase):
    def refuses(self, space, cans, bill, letter):
        self.check_refused(NoPlace, [space], left_by, cans, bill, space, letter)
        self.check_refused(NoPlace, [space], can_be, cans, bill, space)
        self.check_refused(NoPlace, [space], world_with, cans, bill, space, letter)

    def test_below_nought_and_beyond(self):
        for space in (-1, -2, -3, -4, -SIXTY, 3, 4, 99, SIXTY):
            self.refuses(space, CANS, BILL, "a")

    def test_of_no_cans(self):
        for space in (-1, 0, 1):
            self.refuses(space, (), (), "a")
            self.refuses(space, (), BILL, "a")

    def test_whatever_the_letter(self):
        for letter in LETTERS:
            self.refuses(3, CANS, BILL, letter)
            self.refuses(-1, CANS, (("a", 0),), letter)

    def test_where_there_is_no_world(self):
        self.refuses(1, ((),), (), "a")
        self.refuses(-1, (("a",),), (("a", 0),), "a")


class Answers(Refusals):
    """What a test of what spaces can be asks."""

    def check_with(self, cans, bill, space, letter):
        """Told is a WORLD, a NO of what is LEFT, or that nothing is; the word of it."""
        before = copy.deepcopy((cans, bill))
        told = world_with(cans, bill, space, letter)
        self.assertEqual(repr((cans, bill)), repr(before))
        self.assertIs(told.__class__, tuple)
        word, paper = told
        self.assertIs(paper.__class__, tuple)
        left = is_left(cans, bill, space, letter)
        if left is None:
            self.assertEqual(told, ("never", ()))
        elif word == "world":
            self.assertTrue(is_world(cans, bill, paper), (cans, bill, space, letter, paper))
            self.assertEqual(paper[space], letter)
        else:
            self.assertEqual(word, "no")
            self.assertTrue(is_no(*left, paper), (cans, bill, space, letter, paper))
            self.assertIs(paper[1].__class__, tuple)
        if left is not None:
            # A space has a LETTER in some WORLD just where there is one of what is LEFT [45].
            self.assertEqual(word, world(*left)[0])
        return word

    def check_space(self, cans, bill, space):
        """Told are just the LETTERS with a WORLD."""
        told = can_be(cans, bill, space)
        self.assertIs(told.__class__, tuple)
        letters = [letter for letter in LETTERS if self.check_with(cans, bill, space, letter) == "world"]
        self.assertEqual(list(told), letters)
        return told


class Told(Answers, unittest.TestCase):
    def test_what_each_can_be(self):
        self.assertEqual([self.check_space(CANS, BILL, space) for space in range(3)], [("a", "b"), ("a",), ("a", "b")])
        self.assertEqual([self.check_space(CANS, (), space) for space in range(3)], list(CANS))
        bill = (("a", 1), ("b", 1))
        self.assertEqual([self.check_space(CANS, bill, space) for space in range(3)], [("b",), ("a",), ("c",)])

    def test_a_world_with_it(self):
        self.assertEqual(world_with(CANS, BILL, 0, "b"), ("world", ("b", "a", "a")))
        self.assertEqual(world_with(CANS, BILL, 2, "b"), ("world", ("a", "a", "b")))
        self.assertEqual(world_with((("a",),), (), 0, "a"), ("world", ("a",)))
        self.assertEqual(world_with((("a",), ("b",), ("c",)), (), 1, "b"), ("world", ("a", "b", "c")))

    def test_no_world_with_it(self):
        word, paper = world_with(CANS, BILL, 2, "c")
        self.assertEqual(word, "no")
        self.assertTrue(is_no((("a", "b"), ("a",)), BILL, paper))
        self.check_with((("a",), ("a", "b")), (("a", 1),), 1, "a")
        self.assertEqual(world_with((("a",), ("a", "b")), (("a", 1),), 1, "a"), ("no", ("crowd", (0,))))

    def test_never(self):
        self.assertEqual(world_with(CANS, BILL, 0, "c"), ("never", ()))
        self.assertEqual(world_with(CANS, (("a", 0),), 0, "a"), ("never", ()))
        self.assertEqual(world_with(((),), (), 0, "a"), ("never", ()))

    def test_a_space_that_has_no_letter_in_any_world(self):
        self.assertEqual(self.check_space(((), ("a",)), (), 0), ())
        self.assertEqual(self.check_space(((), ("a",)), (), 1), ())
        self.assertEqual(self.check_space((("a",), ("a",)), (("a", 1),), 1), ())
        self.assertEqual(self.check_space((("a", "b"),), (("a", 0), ("b", 0)), 0), ())
        self.assertEqual(self.check_space((("a", "b"),), (("z", 1),), 0), ())

    def test_many_nought(self):
        self.assertEqual(self.check_space((("a", "b", "c"), ("b",)), (("a", 0), ("b", 1)), 0), ("c",))

    def test_of_each_by_itself_not_of_two_at_once(self):
        cans = (("a", "b"), ("a", "b"))
        self.assertEqual([self.check_space(cans, (("a", 1),), space) for space in range(2)], [("a", "b"), ("a", "b")])
        self.assertEqual(set(all_worlds(cans, (("a", 1),))), {("a", "b"), ("b", "a")})

    def test_by_names(self):
        self.assertEqual(can_be(cans=CANS, bill=BILL, space=1), ("a",))
        self.assertEqual(world_with(cans=CANS, bill=BILL, space=1, letter="b"), ("never", ()))


class Small(Answers, unittest.TestCase):
    def test_just_the_letters_of_all_worlds(self):
        for cans, bill in small_fillings(500, 441):
            worlds = all_worlds(cans, bill)
            for space in range(len(cans)):
                letters = tuple(sorted({letters[space] for letters in worlds}))
                self.assertEqual(self.check_space(cans, bill, space), letters, (cans, bill, space))


class Large(Answers, unittest.TestCase):
    def test_twelve_cans_and_eight_rows(self):
        words = {"world": 0, "no": 0, "never": 0}
        for cans, bill in large_fillings(60, 442):
            for space in range(0, 12, 3):
                for letter in cans[space] + ("z",):
                    words[self.check_with(cans, bill, space, letter)] += 1
                self.check_space(cans, bill, space)
        self.assertGreater(min(words.values()), 50)

    def test_of_any_letters(self):
        bill = tuple((letter, k if k < 4 else 0) for k, letter in enumerate(LETTERS[:8]))
        told = can_be((LETTERS,) * 12, bill, 11)
        self.assertEqual(told, ("b", "c", "d") + LETTERS[8:])
        self.assertEqual(can_be((LETTERS,) * 12, tuple((letter, 99) for letter in LETTERS[:8]), 0), ())
