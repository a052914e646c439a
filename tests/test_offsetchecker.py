"""A checker of OFFSETS [63]."""

import unittest
from itertools import product
from random import Random

from leftspaces.offsetchecker import lets_offsets
from leftspaces.parting import offsets
from tests.refusals import Refusals
from tests.things import ODD, SIXTY, as_lists, cut_or_longer, deep, swapped

TURNS = ((1, ("red", "blue")), (3, ("green", "gold", "green")), (7, ("pink",)))
STRETCHES = ((1, 3, 2), (), (9, 9, 1), (4,))
OFFSETS = ((0, 0, 0), (2, 1, 0), (2, 1, 0), (3, 1, 2))


def why_none(turns, stretches, thing):
    """Why a tuple of as many things as STRETCHES isn't their OFFSETS, or None: each asked of all things."""
    rows = len(turns)
    shaped = [isinstance(part, tuple) and len(part) == rows and all(k.__class__ is int and k >= 0 for k in part)
              for part in thing]
    if False in shaped:
        return "offset", shaped.index(False)
    if any(thing[:1] and thing[0]):
        return "begin", 0
    for k in range(1, len(thing)):
        counts = [0] * rows
        for high in stretches[k - 1]:
            counts[[least <= high for least, _ in turns].count(True) - 1] += 1
        if [many - ahead for many, ahead in zip(thing[k], thing[k - 1])] != counts:
            return "sum", k
    return None


def some_stretches(chance):
    """At most twelve STRETCHES, some of them void."""
    return tuple(tuple(chance.randint(1, 9) for _ in range(chance.randint(0, 5))) for _ in range(chance.randint(0, 12)))


class Checks(Refusals):
    """What a test of this checker asks."""

    def lets(self, turns, stretches, thing):
        before = repr((turns, stretches, thing))
        self.assertIs(lets_offsets(turns, stretches, thing), True)
        self.assertEqual(repr((turns, stretches, thing)), before)

    def refuses(self, word, at, thing, turns=TURNS, stretches=STRETCHES):
        before = repr((turns, stretches, thing))
        self.check_no_paper(word, at, lets_offsets, turns, stretches, thing)
        self.assertEqual(repr((turns, stretches, thing)), before)


class LetBy(Checks, unittest.TestCase):
    def test_offsets(self):
        self.lets(TURNS, STRETCHES, OFFSETS)
        self.lets(TURNS, STRETCHES[:1], OFFSETS[:1])
        self.lets(TURNS[:1], STRETCHES, ((0,), (3,), (3,), (6,)))

    def test_stretches_of_none(self):
        self.lets(TURNS, (), ())
        self.refuses("shape", -1, ((0, 0, 0),), stretches=())

    def test_void_stretches(self):
        self.lets(TURNS, ((), (), ()), ((0, 0, 0),) * 3)
        self.lets(TURNS, ((), (1,), ()), ((0, 0, 0), (0, 0, 0), (1, 0, 0)))

    def test_what_is_told(self):
        chance = Random(63)
        for _ in range(300):
            turns = TURNS[:chance.randint(1, 3)]
            stretches = some_stretches(chance)
            self.lets(turns, stretches, offsets(turns, stretches))

    def test_by_names(self):
        self.assertIs(lets_offsets(thing=OFFSETS, stretches=STRETCHES, turns=TURNS), True)


class Refused(Checks, unittest.TestCase):
    def test_no_tuple_of_as_many(self):
        for thing in ODD + (0, SIXTY, list(OFFSETS), as_lists(OFFSETS), deep(0, 30, list), (0, 0, 0)):
            self.refuses("shape", -1, thing)
        for thing in cut_or_longer(OFFSETS, (0, 0, 0)):
            self.refuses("shape", -1, thing)

    def test_something_that_is_no_offset(self):
        for odd in ODD + (0, (0, 0), (0, 0, 0, 0), [0, 0, 0], (0, 0, True), (False, 0, 0), (0, -1, 0), (0, 0, "0"),
                          (0, None, 0), (0, (0,), 0), (-SIXTY, 0, 0)):
            for k in range(4):
                self.refuses("offset", k, OFFSETS[:k] + (odd,) + OFFSETS[k + 1:])
        for odd in ODD:
            for thing in swapped(OFFSETS[1], odd):
                self.refuses("offset", 1, (OFFSETS[0], thing) + OFFSETS[2:])

    def test_the_first_one_is_not_all_nought(self):
        for first in ((1, 0, 0), (0, 0, 1), (2, 1, 0), (SIXTY, SIXTY, SIXTY)):
            self.refuses("begin", 0, (first,) + OFFSETS[1:])
            self.refuses("begin", 0, (first,), stretches=((),))
            more = tuple(tuple(a + b for a, b in zip(first, offset)) for offset in OFFSETS)
            self.refuses("begin", 0, more)

    def test_not_the_one_ahead_with_the_sums_added(self):
        self.refuses("sum", 1, ((0, 0, 0), (2, 0, 0), (2, 1, 0), (3, 1, 2)))
        self.refuses("sum", 2, ((0, 0, 0), (2, 1, 0), (2, 1, 1), (3, 1, 2)))
        self.refuses("sum", 3, ((0, 0, 0), (2, 1, 0), (2, 1, 0), (3, 2, 2)))
        self.refuses("sum", 3, ((0, 0, 0), (2, 1, 0), (2, 1, 0), (SIXTY, 1, 2)))
        self.refuses("sum", 1, ((0, 0, 0), (3, 1, 0), (3, 1, 0), (4, 1, 2)))

    def test_two_due_at_once(self):
        self.refuses("shape", -1, (None, None, None))
        self.refuses("offset", 3, ((1, 0, 0), (9, 9, 9), (0, 0, 0), None))
        self.refuses("offset", 1, ((0, 0, 0), (0, 0), (0,), ()))
        self.refuses("begin", 0, ((1, 0, 0), (9, 9, 9), (0, 0, 0), (0, 0, 0)))
        self.refuses("sum", 1, ((0, 0, 0), (9, 9, 9), (0, 0, 0), (0, 0, 0)))

    def test_small_ones(self):
        words = set()
        turns = TURNS[:2]
        for thing in product(((0, 0), (1, 0), (0, 1), (1, 1), (-1, 0), (0,)), repeat=3):
            for stretches in (((1,), (3,), (1, 1)), ((), (4,), ()), ((1, 5), (), (2,))):
                why = why_none(turns, stretches, thing)
                words.add(why and why[0])
                if why is None:
                    self.lets(turns, stretches, thing)
                    self.assertEqual(thing, offsets(turns, stretches))
                else:
                    self.refuses(*why, thing, turns=turns, stretches=stretches)
        self.assertEqual(words, {None, "offset", "begin", "sum"})
