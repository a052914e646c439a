"""Checkers of the greatest and of the least number of a LETTER [41], [42], [46], [47]."""

import unittest
from itertools import product

from leftspaces.rangechecker import lets_least, lets_most
from leftspaces.ranges import least_of, most_of
from leftspaces.worlds import world
from tests.filling import all_worlds, is_no, is_world, small_fillings
from tests.refusals import Refusals
from tests.things import ODD, SIXTY, as_lists, cut_or_longer, deep, swapped

CANS = (("a", "b"), ("a", "b"), ("a", "c"))
BILL = (("b", 1),)
# From one a to two: there are never three, as one is b; never none, as only one is b, and one is no c.
MOST = (("b", "a", "a"), ("few", ("a", "b")))
LEAST = (("b", "a", "c"), ("crowd", (0, 1)))
LOWEST = (("b", "b", "c"), None)


class Checks(Refusals):
    """What a test of these checkers asks."""

    def lets(self, deed, number, thing, cans=CANS, bill=BILL, letter="a"):
        before = repr((cans, bill, thing))
        told = deed(cans, bill, letter, thing)
        self.assertIs(told.__class__, int)
        self.assertEqual(told, number)
        self.assertEqual(repr((cans, bill, thing)), before)

    def refuses(self, deed, word, at, thing, cans=CANS, bill=BILL, letter="a"):
        before = repr((cans, bill, thing))
        self.check_no_paper(word, at, deed, cans, bill, letter, thing)
        self.assertEqual(repr((cans, bill, thing)), before)

    def both_refuse(self, word, at, thing, **asked):
        self.refuses(lets_most, word, at, thing, **asked)
        self.refuses(lets_least, word, at, thing, **asked)


class LetBy(Checks, unittest.TestCase):
    def test_papers(self):
        self.lets(lets_most, 2, MOST)
        self.lets(lets_least, 1, LEAST)
        self.lets(lets_least, 0, LOWEST, bill=())
        self.lets(lets_least, 0, LOWEST, bill=(("b", 2),))

    def test_a_letter_that_no_can_has(self):
        self.lets(lets_most, 0, (("b", "a", "c"), ("few", ("z",))), letter="z")
        self.lets(lets_least, 0, (("b", "a", "c"), None), letter="z")

    def test_no_space(self):
        self.lets(lets_most, 0, ((), ("few", ("a",))), cans=(), bill=())
        self.lets(lets_least, 0, ((), None), cans=(), bill=())

    def test_the_row_at_its_place(self):
        self.lets(lets_most, 1, (("a", "b", "c"), ("few", ("a", "b", "c"))), bill=(("a", 1), ("c", 1)), letter="b")
        self.lets(lets_least, 1, (("a", "b", "c"), ("crowd", (0, 1))), bill=(("a", 1), ("c", 1)), letter="b")

    def test_by_names(self):
        self.assertEqual(lets_most(thing=MOST, letter="a", bill=BILL, cans=CANS), 2)
        self.assertEqual(lets_least(thing=LEAST, letter="a", bill=BILL, cans=CANS), 1)


class Refused(Checks, unittest.TestCase):
    def test_no_pair(self):
        for thing in ODD + (0, SIXTY, list(MOST), as_lists(MOST), as_lists(LEAST), deep(MOST, 20, list)):
            self.both_refuse("shape", -1, thing)
        for thing in [*cut_or_longer(MOST, None), *cut_or_longer(LEAST, None)]:
            self.both_refuse("shape", -1, thing)

    def test_the_first_thing_is_no_world(self):
        for second in (None, MOST[1], LEAST[1], 5):
            for odd in ODD + (("b", "a"), ["b", "a", "a"], ("b", "a", "a", "a"), ("b", "a", None)):
                self.both_refuse("shape", -1, (odd, second))
            self.both_refuse("can", 0, (("c", "a", "a"), second))
            self.both_refuse("can", 2, (("b", "a", "z"), second))
            self.both_refuse("bill", 0, (("a", "a", "a"), second))
            self.both_refuse("bill", 0, (("b", "b", "a"), second))

    def test_none_though_the_world_has_some(self):
        self.refuses(lets_least, "none", -1, (LEAST[0], None))
        self.refuses(lets_least, "none", -1, (MOST[0], None))

    def test_not_none_though_the_world_has_none(self):
        for second in ODD + (("few", ("a",)), ("crowd", (0, 1)), 0):
            if second is not None:
                self.refuses(lets_least, "none", -1, (LOWEST[0], second), bill=())

    def test_of_the_greatest_none_is_no_no(self):
        self.refuses(lets_most, "shape", -1, (MOST[0], None))
        self.refuses(lets_most, "shape", -1, (LOWEST[0], None), bill=())

    def test_the_second_thing_is_no_no(self):
        for odd in ODD + (list(MOST[1]), ("no", ("a",)), ("few", ("b", "a")), ("few", ["a"]), ("crowd", (1, 0)),
                          ("crowd", (True,)), 0):
            self.refuses(lets_most, "shape", -1, (MOST[0], odd))
            if odd is not None:
                self.refuses(lets_least, "shape", -1, (LEAST[0], odd))
        for odd in ODD:
            for second in swapped(MOST[1], odd):
                if second not in (("few", ()), None):
                    self.refuses(lets_most, "shape", -1, (MOST[0], second))

    def test_by_the_bill_with_a_row_more(self):
        for deed, paper in ((lets_most, MOST), (lets_least, LEAST)):
            self.refuses(deed, "space", 1, (paper[0], ("crowd", (0, 3))))
            self.refuses(deed, "free", 1, (paper[0], ("crowd", (1, 2))))
            self.refuses(deed, "enough", -1, (paper[0], ("crowd", ())))
            self.refuses(deed, "letter", 2, (paper[0], ("few", ("a", "b", "z"))))
            self.refuses(deed, "enough", -1, (paper[0], ("few", ("b",))))
        # The LETTER itself is BILLED in it.
        self.refuses(lets_most, "enough", -1, (MOST[0], ("few", ("a",))))

    def test_a_no_of_another_many(self):
        # It is one of the greatest, but this WORLD has fewer; of the least, but this one has more.
        self.refuses(lets_most, "enough", -1, (LEAST[0], MOST[1]))
        self.refuses(lets_least, "enough", -1, (MOST[0], LEAST[1]))

    def test_two_due_at_once(self):
        self.both_refuse("shape", -1, (("z", "z"), 5))
        self.both_refuse("can", 0, (("z", "a", "a"), None))
        self.refuses(lets_least, "bill", 0, (("b", "b", "c"), ("few", ())))
        self.refuses(lets_least, "none", -1, (LOWEST[0], ("x", 1)), bill=())


class Small(Checks, unittest.TestCase):
    def test_each_world_with_some_papers(self):
        let = 0
        for cans, bill in small_fillings(150, 470):
            worlds = all_worlds(cans, bill)
            letters = [letter for letter in "abz" if letter not in dict(bill)]
            for letter, told in product(letters, worlds[:6]):
                papers = [None] + [world(cans, tuple(sorted([*bill, (letter, many)])))[1] for many in range(5)]
                for second in papers:
                    let += self.check(cans, bill, letter, (told, second), worlds)
        self.assertGreater(let, 200)

    def check(self, cans, bill, letter, thing, worlds):
        """What is let by is the greatest, or the least, of all WORLDS; how often it is."""
        number = thing[0].count(letter)
        numbers = [letters.count(letter) for letters in worlds]
        most, least = (is_no(cans, tuple(sorted([*bill, (letter, number + step)])), thing[1]) for step in (1, -1))
        if most:
            self.lets(lets_most, number, thing, cans, bill, letter)
            self.assertEqual(number, max(numbers))
        else:
            self.refused(lets_most, cans, bill, letter, thing)
        if thing[1] is None and number == 0 or number > 0 and least:
            self.lets(lets_least, number, thing, cans, bill, letter)
            self.assertEqual(number, min(numbers))
        else:
            self.refused(lets_least, cans, bill, letter, thing)
        return most + least

    def refused(self, deed, cans, bill, letter, thing):
        with self.assertRaises(ValueError):
            deed(cans, bill, letter, thing)

    def test_what_is_told_is_let_by(self):
        for cans, bill in small_fillings(300, 471):
            if world(cans, bill)[0] == "world":
                for letter in [letter for letter in "abcdz" if letter not in dict(bill)]:
                    number, paper = most_of(cans, bill, letter)
                    self.lets(lets_most, number, paper, cans, bill, letter)
                    self.assertTrue(is_world(cans, bill, paper[0]))
                    number, paper = least_of(cans, bill, letter)
                    self.lets(lets_least, number, paper, cans, bill, letter)
