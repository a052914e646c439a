"""The fewest spaces painted ANEW, with PRICES by which there are no fewer [48], [50]."""

import unittest
from random import Random

from leftspaces.errors import NoWorld
from leftspaces.nochecker import lets_no
from leftspaces.repaintchecker import lets_repainted
from leftspaces.repainting import fewest_repainted
from tests.filling import LETTERS, all_worlds, is_no, is_world, large_fillings, small_fillings
from tests.papers import anew, dear_space, some_painted, sum_of
from tests.refusals import Refusals

CANS = (("a", "b"), ("a", "b"), ("a", "c"))
BILL = (("a", 1), ("b", 1))


class Answers(Refusals):
    """What a test of the fewest to be painted anew asks."""

    def fewest(self, cans, bill, painted):
        """Told is a REPAINT PAPER; its number."""
        before = repr((cans, bill, painted))
        told = fewest_repainted(cans, bill, painted)
        self.assertEqual(repr((cans, bill, painted)), before)
        self.assertEqual([part.__class__ for part in (told, *told, *told[2])], [tuple, int, tuple, tuple, tuple, tuple])
        number, letters, prices = told
        self.assertTrue(is_world(cans, bill, letters), (cans, bill, painted, told))
        self.assertEqual(anew(painted, letters), number)
        self.assertEqual((len(prices[0]), len(prices[1])), (len(cans), len(bill)))
        self.assertTrue(all(price.__class__ is int for part in prices for price in part))
        self.assertIsNone(dear_space(cans, bill, painted, prices), (cans, bill, painted, told))
        self.assertEqual(sum_of(bill, prices), number, (cans, bill, painted, told))
        self.assertEqual(lets_repainted(cans, bill, painted, told), number)
        return number

    def lacks(self, cans, bill, painted):
        with self.assertRaises(NoWorld) as held:
            fewest_repainted(cans, bill, painted)
        self.assertEqual(list(vars(held.exception)), ["paper"])
        self.assertTrue(is_no(cans, bill, held.exception.paper))
        self.assertIs(lets_no(cans, bill, held.exception.paper), True)


class Told(Answers, unittest.TestCase):
    def test_none_where_what_is_painted_is_a_world(self):
        self.assertEqual(self.fewest(CANS, BILL, ("a", "b", "c")), 0)
        self.assertEqual(fewest_repainted(CANS, BILL, ("b", "a", "c"))[1], ("b", "a", "c"))

    def test_one_and_two(self):
        self.assertEqual(self.fewest(CANS, BILL, ("a", "b", "a")), 1)
        self.assertEqual(self.fewest(CANS, BILL, ("a", "a", "c")), 1)
        self.assertEqual(self.fewest(CANS, BILL, ("a", "a", "a")), 2)
        self.assertEqual(self.fewest(CANS, BILL, ("z", "z", "z")), 3)

    def test_nothing_is_painted(self):
        self.assertEqual(self.fewest(CANS, BILL, (None, None, None)), 0)
        self.assertEqual(self.fewest(CANS, BILL, (None, "a", "a")), 1)
        self.assertEqual(self.fewest(CANS, BILL, ("a", None, "c")), 0)

    def test_what_is_none_of_its_can(self):
        self.assertEqual(self.fewest(CANS, BILL, ("c", None, None)), 1)
        self.assertEqual(self.fewest(CANS, (), ("z", "b", "b")), 2)

    def test_letters_that_are_not_billed(self):
        self.assertEqual(self.fewest(CANS, (), ("a", "b", "c")), 0)
        self.assertEqual(self.fewest((("a", "b", "c"),) * 3, (), ("c", "c", "b")), 0)
        self.assertEqual(self.fewest((("a", "b", "c"),) * 3, (("a", 1),), ("c", "c", "b")), 1)
        self.assertEqual(self.fewest((("a", "b", "c"),) * 3, (("a", 1),), ("a", "a", "b")), 1)

    def test_no_space(self):
        self.assertEqual(fewest_repainted((), (), ()), (0, (), ((), ())))
        self.assertEqual(self.fewest((), (("a", 0), ("z", 0)), ()), 0)

    def test_many_nought(self):
        self.assertEqual(self.fewest(CANS, (("a", 0),), ("a", "a", "a")), 3)
        self.assertEqual(self.fewest(CANS, (("a", 0), ("z", 0)), ("a", "b", None)), 1)

    def test_an_exchange_over_many_spaces(self):
        # Each space has the LETTER of the one ahead, or its own; the first one can only have its own.
        cans = (("a",),) + tuple((one, other) for one, other in zip(LETTERS, LETTERS[1:11]))
        bill = tuple((letter, 1) for letter in LETTERS[:11])
        self.assertEqual(self.fewest(cans, bill, (None,) + tuple(LETTERS[:10])), 10)
        self.assertEqual(self.fewest(cans, bill, tuple(LETTERS[:11])), 0)
        self.assertEqual(self.fewest(cans, bill[1:], (None,) + tuple(LETTERS[:10])), 10)
        # Where neither the first LETTER nor the last one is BILLED nothing has to go on.
        self.assertEqual(self.fewest(cans, bill[1:10], (None,) + tuple(LETTERS[:10])), 0)

    def test_by_names(self):
        self.assertEqual(fewest_repainted(painted=("a", "b", "a"), bill=BILL, cans=CANS)[0], 1)


class Refused(Answers, unittest.TestCase):
    def test_no_world(self):
        self.lacks(((),), (), (None,))
        self.lacks((("a",), ("a",)), (("a", 1),), ("a", "a"))
        self.lacks(CANS, (("b", 3),), ("b", "b", "a"))
        self.lacks((), (("a", 1),), ())


class Small(Answers, unittest.TestCase):
    def test_no_world_has_fewer(self):
        chance = Random(50)
        numbers, lacking = set(), 0
        for cans, bill in small_fillings(1500, 500):
            painted = some_painted(chance, cans)
            worlds = all_worlds(cans, bill)
            if not worlds:
                self.lacks(cans, bill, painted)
                lacking += 1
                continue
            number = self.fewest(cans, bill, painted)
            self.assertEqual(number, min(anew(painted, letters) for letters in worlds), (cans, bill, painted))
            numbers.add(number)
        self.assertTrue({0, 1, 2, 3} <= numbers)
        self.assertGreater(lacking, 100)

    def test_none_where_all_that_is_painted_is_of_a_world(self):
        chance = Random(52)
        for cans, bill in small_fillings(300, 502):
            for letters in all_worlds(cans, bill)[:4]:
                self.assertEqual(self.fewest(cans, bill, letters), 0)
                self.assertEqual(self.fewest(cans, bill, tuple(chance.choice((None, letter)) for letter in letters)), 0)


class Large(Answers, unittest.TestCase):
    def test_twelve_cans_and_eight_rows(self):
        chance = Random(51)
        told = lacking = 0
        for cans, bill in large_fillings(300, 501):
            painted = some_painted(chance, cans)
            try:
                told += self.fewest(cans, bill, painted) > 2
            except NoWorld:
                self.lacks(cans, bill, painted)
                lacking += 1
        self.assertGreater(min(told, lacking), 30)

    def test_many_spaces(self):
        cans = (LETTERS[:9],) * 60
        bill = tuple((letter, 6) for letter in LETTERS[:8])
        self.assertEqual(self.fewest(cans, bill, ("a",) * 60), 54)
        self.assertEqual(self.fewest(cans, bill, tuple(LETTERS[:10]) * 6), 6)
