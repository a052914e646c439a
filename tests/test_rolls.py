"""ROLLS: PAGES in order, two joined, up to a MOMENT [7], [71]."""

import copy
import unittest
from itertools import permutations
from random import Random

from leftspaces.rolls import in_order, is_roll, joined, up_to
from tests.looks import Looks
from tests.things import ODD, SIXTY, as_lists, deep, swapped
from tests.walks import END, small_pages, small_walks, stand

ANN = ("ann", 3, 4, ("nn", "was", "old"))
BOB = ("bob", 1, 1, ("ob",))
# As they STAND: by day, by number, by the order of kinds, by what is left.
ROLL = (
    (0, 7, "bill", "z", 1),
    (1, 0, "bill", "a", 0),
    (1, 2, "put", ANN, ""), (1, 2, "put", ANN, "bob"), (1, 2, "put", BOB, ""), (1, 2, "out", "ann"),
    (1, 2, "out", "bob"),
    (1, 2, "grow", "ann", 9, 1), (1, 2, "grow", "ann", 10, 1), (1, 2, "grow", "ann", 10, 2), (1, 2, "guide", "ann", ()),
    (1, 2, "guide", "ann", ("a",)), (1, 2, "guide", "ann", ("a", "e")), (1, 2, "guide", "ann", ("b",)),
    (1, 2, "guide", "bob", ()), (1, 2, "scrape", "ann"), (1, 2, "paint", "ann", "a", "blue"),
    (1, 2, "paint", "ann", "a", "red"), (1, 2, "paint", "ann", "b", "blue"), (1, 2, "bill", "a", 9),
    (1, 2, "bill", "a", 10),
    (1, 2, "bill", "b", 0),
    (1, 10, "put", ANN, ""),
    (10, 0, "out", "ann"),
)


class IsRoll(Looks, unittest.TestCase):
    def test_rolls(self):
        self.told(is_roll, ROLL, True)
        for k in range(len(ROLL)):
            self.told(is_roll, ROLL[:k] + ROLL[k + 1:], True)
            self.told(is_roll, ROLL[k:k + 1], True)

    def test_of_none(self):
        self.told(is_roll, (), True)

    def test_each_page_once(self):
        for k, page in enumerate(ROLL):
            self.told(is_roll, ROLL[:k] + (page,) + ROLL[k:], False)
            self.told(is_roll, (page, page), False)
        self.told(is_roll, ROLL + ROLL[:1], False)

    def test_as_they_stand(self):
        for k in range(len(ROLL) - 1):
            self.told(is_roll, (ROLL[k], ROLL[k + 1]), True)
            self.told(is_roll, (ROLL[k + 1], ROLL[k]), False)
            self.told(is_roll, ROLL[:k] + (ROLL[k + 1], ROLL[k]) + ROLL[k + 2:], False)

    def test_of_pages(self):
        for odd in ODD + (1, SIXTY, list(ROLL[0]), ROLL[0][:4], (100000, 0, "out", "ann"), (1, 0, "bill", "a", True)):
            self.told(is_roll, (odd,), False)
            self.told(is_roll, ROLL + (odd,), False)

    def test_other_things(self):
        for thing in ODD + (list(ROLL), as_lists(ROLL), ROLL[0], (ROLL,), 1, SIXTY, deep(ROLL[:1], 27, tuple), "roll",
                            {}):
            self.told(is_roll, thing, thing == () and isinstance(thing, tuple))

    def test_any_odd_thing_in_any_place(self):
        roll = ((1, 2, "out", "ann"), (1, 2, "grow", "ann", 9, 1))
        for odd in ODD:
            for thing in swapped(roll, odd):
                self.told(is_roll, thing, thing == () and isinstance(thing, tuple))

    def test_of_however_many(self):
        pages = tuple((day, 0, "out", "ann") for day in range(1200))
        self.told(is_roll, pages, True)
        self.told(is_roll, pages[1:] + pages[:1], False)


class InOrder(unittest.TestCase):
    def told(self, pages, expected):
        before = copy.deepcopy(pages)
        told = in_order(pages)
        self.assertEqual(repr(told), repr(expected))
        self.assertIs(told.__class__, tuple)
        self.assertIs(is_roll(told), True)
        self.assertEqual(repr(pages), repr(before))

    def test_in_any_order(self):
        chance = Random(71)
        for _ in range(200):
            pages = list(ROLL)
            chance.shuffle(pages)
            self.told(pages, ROLL)
            self.told(tuple(pages), ROLL)
        for pages in permutations(ROLL[2:7]):
            self.told(pages, ROLL[2:7])

    def test_some_several_times(self):
        self.told(ROLL * 3, ROLL)
        self.told(list(ROLL) + list(ROLL[::-1]), ROLL)
        self.told([ROLL[4]] * 200, ROLL[4:5])
        self.told((ROLL[4], ROLL[3], ROLL[4]), ROLL[3:5])

    def test_of_none(self):
        self.told([], ())
        self.told((), ())

    def test_two_hundred(self):
        chance = Random(72)
        pages = small_pages(chance, 200)
        self.told(pages, tuple(sorted(set(pages), key=stand)))
        pages = [(day % 50, day // 50, "bill", "a", day) for day in range(200)]
        self.told(pages, tuple(sorted(pages)))

    def test_by_names(self):
        self.assertEqual(in_order(pages=[ROLL[1], ROLL[0]]), ROLL[:2])


class Joined(unittest.TestCase):
    def told(self, one, other, expected):
        before = copy.deepcopy((one, other))
        self.assertEqual(repr(joined(one, other)), repr(expected))
        self.assertEqual(repr(joined(other, one)), repr(expected))
        self.assertEqual(repr((one, other)), repr(before))

    def test_each_page_that_either_has(self):
        self.told(ROLL[::2], ROLL[1::2], ROLL)
        self.told(ROLL[:9], ROLL[5:], ROLL)
        self.told(ROLL, ROLL[3:5], ROLL)

    def test_the_same_and_none(self):
        self.told(ROLL, ROLL, ROLL)
        self.told(ROLL, (), ROLL)
        self.told((), (), ())
        self.assertIs(joined((), ()).__class__, tuple)

    def test_any_parts(self):
        chance = Random(73)
        for _ in range(200):
            one, other = [tuple(page for page in ROLL if chance.random() < 0.4) for _ in range(2)]
            self.told(one, other, tuple(page for page in ROLL if page in one + other))

    def test_by_names(self):
        self.assertEqual(joined(one=ROLL[:1], other=ROLL[1:2]), ROLL[:2])


class UpTo(unittest.TestCase):
    def told(self, roll, moment, expected):
        before = copy.deepcopy(roll)
        told = up_to(roll, moment)
        self.assertEqual(repr(told), repr(expected))
        self.assertEqual(repr(roll), repr(before))
        self.assertIs(is_roll(told), True)

    def test_of_moments_no_later(self):
        self.told(ROLL, (1, 2), ROLL[:22])
        self.told(ROLL, (1, 1), ROLL[:2])
        self.told(ROLL, (1, 0), ROLL[:2])
        self.told(ROLL, (0, 999), ROLL[:1])
        self.told(ROLL, (1, 9), ROLL[:22])
        self.told(ROLL, (1, 10), ROLL[:23])
        self.told(ROLL, (9, 999), ROLL[:23])
        self.told(ROLL, (10, 0), ROLL)

    def test_ahead_of_all_and_behind_all(self):
        self.told(ROLL, (0, 0), ())
        self.told(ROLL, (0, 6), ())
        self.told(ROLL, END, ROLL)
        self.told((), (0, 0), ())
        self.told((), END, ())
        self.told(((99999, 999, "out", "ann"),), END, ((99999, 999, "out", "ann"),))
        self.told(((0, 0, "out", "ann"),), (0, 0), ((0, 0, "out", "ann"),))

    def test_small_rolls(self):
        for _, roll, moment in small_walks(200, 74):
            self.told(roll, moment, tuple(page for page in roll if (page[0], page[1]) <= moment))

    def test_by_names(self):
        self.assertEqual(up_to(moment=(0, 999), roll=ROLL), ROLL[:1])
