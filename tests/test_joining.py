"""BILLS JOINED [51]."""

import unittest
from random import Random

from leftspaces.cans import is_bill
from leftspaces.joining import joined_bills
from leftspaces.worldchecker import lets_world
from leftspaces.worlds import world
from tests.filling import all_worlds, small_fillings
from tests.things import SIXTY

ALL = tuple((letter, k) for k, letter in enumerate("abcdefgh"))


class Joined(unittest.TestCase):
    def told(self, one, other, expected):
        before = repr((one, other))
        self.assertEqual(repr(joined_bills(one, other)), repr(expected))
        self.assertEqual(repr(joined_bills(other, one)), repr(expected))
        self.assertEqual(repr((one, other)), before)
        self.assertIs(is_bill(expected), True)

    def test_letters_that_are_billed_in_both(self):
        self.told((("a", 2), ("b", 1)), (("a", 3), ("b", 4)), (("a", 5), ("b", 5)))
        self.told((("a", 2), ("b", 1), ("d", 7)), (("b", 4), ("c", 1), ("d", 0)), (("b", 5), ("d", 7)))
        self.told((("a", 2), ("c", 1)), (("b", 4), ("d", 1)), ())

    def test_of_none(self):
        self.told((), (), ())
        self.told((), (("a", 1),), ())

    def test_many_nought(self):
        self.told((("a", 0), ("b", 0)), (("a", 0), ("b", 1)), (("a", 0), ("b", 1)))

    def test_the_same_twice(self):
        self.told(ALL, ALL, tuple((letter, 2 * many) for letter, many in ALL))

    def test_large(self):
        self.told((("a", SIXTY),), (("a", 1),), (("a", SIXTY + 1),))
        self.told((("a", 99), ("h", 99)), (("a", 99), ("h", 99)), (("a", 198), ("h", 198)))

    def test_by_names(self):
        self.assertEqual(joined_bills(other=(("a", 1),), one=(("a", 2), ("b", 0))), (("a", 3),))

    def test_what_is_told_may_be_handed_in_again(self):
        chance = Random(51)
        bill = ()
        for _ in range(50):
            one, other = ALL[chance.randint(0, 3):], ALL[:chance.randint(5, 8)]
            bill = joined_bills(joined_bills(one, other), ALL)
            self.assertIs(is_bill(bill), True)


class Worlds(unittest.TestCase):
    def test_a_world_of_each_and_behind_it_one_of_the_other(self):
        fillings = [(cans, bill) for cans, bill in small_fillings(500, 510) if len(cans) < 4]
        joined = 0
        for (cans, bill), (others, other) in zip(fillings, fillings[1:]):
            both = joined_bills(bill, other)
            for letters in all_worlds(cans, bill)[:5]:
                for more in all_worlds(others, other)[:5]:
                    self.assertIs(lets_world(cans + others, both, letters + more), True)
                    self.assertEqual(world(cans + others, both)[0], "world")
                    joined += 1
        self.assertGreater(joined, 100)

    def test_the_other_way_about_it_need_not_be(self):
        both = joined_bills((("a", 0),), (("a", 2),))
        self.assertIs(lets_world((("a",), ("a", "b")), both, ("a", "a")), True)
        self.assertEqual(world((("a",),), (("a", 0),))[0], "no")
        self.assertEqual(world((("a", "b"),), (("a", 2),))[0], "no")
