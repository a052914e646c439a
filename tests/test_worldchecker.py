"""A checker of WORLDS [41]; what is told as one is let by [43], [44]."""

import unittest
from itertools import product

from leftspaces.canbe import left_by, world_with
from leftspaces.worldchecker import lets_world
from leftspaces.worlds import world
from tests.filling import LETTERS, is_world, large_fillings, small_fillings
from tests.papers import why_no_world
from tests.refusals import Refusals
from tests.things import ODD, SIXTY, as_lists, cut_or_longer, deep, swapped

CANS = (("a", "b"), ("a",), ("a", "b", "c"))
BILL = (("a", 2), ("b", 1))
WORLD = ("b", "a", "a")


class Checks(Refusals):
    """What a test of this checker asks."""

    def lets(self, cans, bill, thing):
        before = repr((cans, bill, thing))
        self.assertIs(lets_world(cans, bill, thing), True)
        self.assertEqual(repr((cans, bill, thing)), before)

    def refuses(self, word, at, thing, cans=CANS, bill=BILL):
        before = repr((cans, bill, thing))
        self.check_no_paper(word, at, lets_world, cans, bill, thing)
        self.assertEqual(repr((cans, bill, thing)), before)


class LetBy(Checks, unittest.TestCase):
    def test_worlds(self):
        self.lets(CANS, BILL, WORLD)
        self.lets(CANS, BILL, ("a", "a", "b"))
        self.lets(CANS, (), ("a", "a", "c"))
        self.lets(CANS, (("a", 3), ("b", 0), ("z", 0)), ("a", "a", "a"))

    def test_of_no_space(self):
        self.lets((), (), ())
        self.lets((), (("a", 0), ("b", 0)), ())
        self.refuses("bill", 1, (), cans=(), bill=(("a", 0), ("b", 1)))
        self.refuses("shape", -1, ("a",), cans=(), bill=())

    def test_by_names(self):
        self.assertIs(lets_world(thing=WORLD, bill=BILL, cans=CANS), True)


class Refused(Checks, unittest.TestCase):
    def test_no_tuple(self):
        for thing in ODD + (0, 1, SIXTY, -SIXTY, "baa", list(WORLD), as_lists(WORLD), ("world", WORLD), {"b": 1}):
            self.refuses("shape", -1, thing)
        self.refuses("shape", -1, deep("a", 30, list))
        self.refuses("shape", -1, deep("a", 30, lambda part: tuple(part)))

    def test_not_as_many_as_there_are_spaces(self):
        for thing in cut_or_longer(WORLD, "a"):
            self.refuses("shape", -1, thing)
        self.refuses("shape", -1, ())
        self.refuses("shape", -1, ("a",) * 4999)

    def test_something_that_is_no_letter(self):
        for odd in ODD + (1, 0, ("a",), "ab", "A", "?"):
            for thing in list(swapped(WORLD, odd))[1:]:
                self.refuses("shape", -1, thing)

    def test_no_letter_of_its_can(self):
        self.refuses("can", 0, ("c", "a", "a"))
        self.refuses("can", 1, ("a", "b", "a"))
        self.refuses("can", 2, ("b", "a", "d"))
        self.refuses("can", 1, ("b", "b", "z"))
        self.refuses("can", 0, ("a",), cans=((),), bill=())
        self.refuses("can", 1, ("a", "a"), cans=(("a",), ()), bill=())

    def test_not_as_many_as_billed(self):
        self.refuses("bill", 0, ("a", "a", "a"))
        self.refuses("bill", 0, ("b", "a", "c"))
        self.refuses("bill", 1, ("a", "a", "c"))
        self.refuses("bill", 0, WORLD, bill=(("a", 0),))
        self.refuses("bill", 1, WORLD, bill=(("a", 2), ("z", 1)))
        self.refuses("bill", 0, WORLD, bill=(("a", SIXTY),))
        self.refuses("bill", 2, ("a", "a", "b"), bill=(("a", 2), ("b", 1), ("c", 1), ("d", 9)))

    def test_two_due_at_once(self):
        # A thing of no shape that has letters out of their CANS, too; a letter out of its CAN behind a BILL that is off.
        self.refuses("shape", -1, ("z", "z", 1))
        self.refuses("shape", -1, ("z", "z"))
        self.refuses("can", 2, ("a", "a", "z"), bill=(("a", 0), ("z", 5)))
        self.refuses("can", 0, ("z", "z", "z"))

    def test_many_nought(self):
        self.refuses("bill", 0, ("a", "a"), cans=(("a", "b"), ("a",)), bill=(("a", 0),))
        self.lets((("a", "b"), ("b",)), (("a", 0),), ("b", "b"))


class Small(Checks, unittest.TestCase):
    def test_each_tuple_of_letters(self):
        words = set()
        for cans, bill in small_fillings(250, 410):
            for thing in product("abcz", repeat=min(4, len(cans))):
                thing += ("a",) * (len(cans) - len(thing))
                why = why_no_world(cans, bill, thing)
                self.assertEqual(why is None, is_world(cans, bill, thing))
                if why is None:
                    self.lets(cans, bill, thing)
                else:
                    self.refuses(*why, thing, cans=cans, bill=bill)
                words.add(why and why[0])
        self.assertEqual(words, {None, "can", "bill"})


class Told(Checks, unittest.TestCase):
    def test_each_world_told_is_let_by(self):
        told = 0
        for cans, bill in [*small_fillings(600, 411), *large_fillings(200, 412)]:
            word, paper = world(cans, bill)
            if word == "world":
                self.lets(cans, bill, paper)
                told += 1
        self.assertGreater(told, 200)

    def test_each_world_with_a_letter_is_let_by(self):
        for cans, bill in [*small_fillings(150, 413), *large_fillings(10, 414)]:
            for space, letter in product(range(len(cans)), LETTERS[:9]):
                word, paper = world_with(cans, bill, space, letter)
                if word == "world":
                    self.lets(cans, bill, paper)
                    self.assertEqual(paper[space], letter)
                    self.lets(*left_by(cans, bill, space, letter), paper[:space] + paper[space + 1:])
