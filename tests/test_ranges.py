"""How many of a LETTER there can be: the greatest number, the least, and each between [46], [52]."""

import unittest

from leftspaces.errors import NoWorld
from leftspaces.nochecker import lets_no
from leftspaces.rangechecker import lets_least, lets_most
from leftspaces.ranges import least_of, most_of
from leftspaces.worlds import world
from tests.filling import LETTERS, all_worlds, is_no, is_world, large_fillings, small_fillings
from tests.refusals import Refusals

CANS = (("a", "b"), ("a", "b"), ("a", "c"), ("b", "c"))


def with_row(bill, letter, many):
    """The BILL with a row more, at its place."""
    return tuple(sorted([*bill, (letter, many)]))


class Answers(Refusals):
    """What a test of the greatest and the least number asks."""

    def ends(self, cans, bill, letter):
        """The least and the greatest number; each paper is looked at."""
        before = repr((cans, bill))
        least, greatest = least_of(cans, bill, letter), most_of(cans, bill, letter)
        self.assertEqual(repr((cans, bill)), before)
        self.check(cans, bill, letter, least, -1)
        self.check(cans, bill, letter, greatest, 1)
        self.assertIs(lets_least(cans, bill, letter, least[1]).__class__, int)
        self.assertEqual(lets_least(cans, bill, letter, least[1]), least[0])
        self.assertEqual(lets_most(cans, bill, letter, greatest[1]), greatest[0])
        return least[0], greatest[0]

    def check(self, cans, bill, letter, told, step):
        self.assertIs(told.__class__, tuple)
        number, paper = told
        self.assertIs(number.__class__, int)
        self.assertIs(paper.__class__, tuple)
        letters, why_not = paper
        self.assertTrue(is_world(cans, bill, letters), (cans, bill, letter, told))
        self.assertEqual(letters.count(letter), number)
        if number + step < 0:
            self.assertIsNone(why_not)
        else:
            self.assertTrue(is_no(cans, with_row(bill, letter, number + step), why_not), (cans, bill, letter, told))

    def lacks(self, cans, bill, letter):
        """Where there is no WORLD both are refused with a NO."""
        for deed in (most_of, least_of):
            with self.assertRaises(NoWorld) as held:
                deed(cans, bill, letter)
            self.assertEqual(list(vars(held.exception)), ["paper"])
            self.assertTrue(is_no(cans, bill, held.exception.paper))
            self.assertIs(lets_no(cans, bill, held.exception.paper), True)


class Told(Answers, unittest.TestCase):
    def test_the_least_and_the_greatest(self):
        self.assertEqual(self.ends(CANS, (), "a"), (0, 3))
        self.assertEqual(self.ends(CANS, (("b", 1),), "a"), (1, 3))
        self.assertEqual(self.ends(CANS, (("c", 0),), "a"), (1, 3))
        self.assertEqual(self.ends(CANS, (("b", 0),), "a"), (2, 3))
        self.assertEqual(self.ends(CANS, (("b", 3), ("c", 1)), "a"), (0, 0))

    def test_just_one_number(self):
        self.assertEqual(self.ends((("a",), ("a",)), (), "a"), (2, 2))
        self.assertEqual(self.ends(CANS, (("b", 0), ("c", 1)), "a"), (3, 3))

    def test_a_letter_that_no_can_has(self):
        self.assertEqual(self.ends(CANS, (), "z"), (0, 0))
        self.assertEqual(self.ends(CANS, (("b", 1),), "d"), (0, 0))
        self.assertEqual(most_of(CANS, (), "z")[1][1], ("few", ("z",)))

    def test_the_least_nought_has_no_no(self):
        self.assertEqual(least_of((("a", "b"),), (), "a"), (0, (("b",), None)))

    def test_no_space(self):
        self.assertEqual(self.ends((), (), "a"), (0, 0))
        self.assertEqual(self.ends((), (("b", 0),), "a"), (0, 0))
        self.assertEqual(most_of((), (), "a"), (0, ((), ("few", ("a",)))))
        self.assertEqual(least_of((), (), "a"), (0, ((), None)))

    def test_the_row_at_its_place(self):
        self.assertEqual(self.ends(CANS, (("a", 2), ("c", 1)), "b"), (1, 1))
        self.assertEqual(self.ends(CANS, (("a", 2), ("z", 0)), "b"), (0, 2))

    def test_all_letters(self):
        self.assertEqual(self.ends((LETTERS,) * 12, (("a", 12),), "b"), (0, 0))
        self.assertEqual(self.ends((LETTERS,) * 12, (), "b"), (0, 12))
        bill = tuple((letter, 1) for letter in LETTERS[:8])
        self.assertEqual(self.ends((LETTERS,) * 12, bill, "z"), (0, 4))
        self.assertEqual(self.ends((LETTERS[:8] + ("z",),) * 12, bill, "z"), (4, 4))

    def test_by_names(self):
        self.assertEqual(most_of(letter="a", bill=(), cans=(("a",),))[0], 1)
        self.assertEqual(least_of(letter="a", bill=(), cans=(("a",),))[0], 1)


class Refused(Answers, unittest.TestCase):
    def test_no_world(self):
        self.lacks(((),), (), "a")
        self.lacks((("a",), ("b",)), (("b", 2),), "a")
        self.lacks((("b",), ("b",)), (("b", 1),), "a")
        self.lacks((), (("b", 1),), "a")
        self.lacks((("a", "b"),), (("z", 1),), "a")


class Small(Answers, unittest.TestCase):
    def test_just_the_numbers_that_worlds_have(self):
        wide = lacking = 0
        for cans, bill in small_fillings(700, 460):
            worlds = all_worlds(cans, bill)
            for letter in [letter for letter in "abcdz" if letter not in dict(bill)]:
                if not worlds:
                    self.lacks(cans, bill, letter)
                    lacking += 1
                    continue
                least, greatest = self.ends(cans, bill, letter)
                numbers = {letters.count(letter) for letters in worlds}
                self.assertEqual(numbers, set(range(least, greatest + 1)), (cans, bill, letter))
                wide += greatest > least > 0
        self.assertGreater(min(wide, lacking), 50)


class Large(Answers, unittest.TestCase):
    def test_each_number_between(self):
        asked = 0
        for cans, bill in large_fillings(60, 461):
            for letter in [letter for letter in LETTERS[:10] if letter not in dict(bill)]:
                if world(cans, bill)[0] == "no":
                    self.lacks(cans, bill, letter)
                    continue
                least, greatest = self.ends(cans, bill, letter)
                words = [world(cans, with_row(bill, letter, many))[0] for many in range(14)]
                self.assertEqual(words, ["world" if least <= many <= greatest else "no" for many in range(14)])
                asked += 1
        self.assertGreater(asked, 10)
