"""Spaces parted among painters [61], [62], [64]."""

import unittest
from itertools import permutations, product

from leftspaces.parting import offsets, stretch_colours, sums
from leftspaces.turns import class_of, colours
from tests.things import SIXTY

TURNS = ((1, ("red", "blue")), (3, ("green",)), (7, ("red", "red", "gold")))
STRETCHES = ((1, 7, 2), (), (3, 9, 8, 1), (7,), (), (2, 2, 4, 7))
WHOLE = sum(STRETCHES, ())


class Sums(unittest.TestCase):
    def test_how_many_of_each_class(self):
        self.assertEqual(sums(TURNS, (1, 2, 3, 7, 8, 9)), (2, 1, 3))
        self.assertEqual(sums(TURNS, (10 ** 9,)), (0, 0, 1))

    def test_highs_of_none(self):
        self.assertEqual(sums(TURNS, ()), (0, 0, 0))
        self.assertEqual(sums(TURNS[:1], ()), (0,))

    def test_just_at_a_least_and_one_below(self):
        self.assertEqual(sums(TURNS, (2, 3, 6, 7)), (1, 2, 1))

    def test_of_two_stretches_added(self):
        for one, other in product(STRETCHES, repeat=2):
            added = tuple(a + b for a, b in zip(sums(TURNS, one), sums(TURNS, other)))
            self.assertEqual(added, sums(TURNS, one + other))

    def test_by_names_and_a_tuple(self):
        told = sums(turns=TURNS, highs=(1, 1, 1))
        self.assertEqual(told, (3, 0, 0))
        self.assertIs(told.__class__, tuple)


class Offsets(unittest.TestCase):
    def test_sums_of_all_ahead(self):
        self.assertEqual(offsets(TURNS, STRETCHES),
                         ((0, 0, 0), (2, 0, 1), (2, 0, 1), (3, 1, 3), (3, 1, 4), (3, 1, 4)))

    def test_none_at_all(self):
        self.assertEqual(offsets(TURNS, ()), ())

    def test_void_stretches(self):
        self.assertEqual(offsets(TURNS, ((),)), ((0, 0, 0),))
        self.assertEqual(offsets(TURNS, ((), (), ())), ((0, 0, 0),) * 3)
        self.assertEqual(offsets(TURNS, ((), (1,), ())), ((0, 0, 0), (0, 0, 0), (1, 0, 0)))

    def test_of_one_row(self):
        self.assertEqual(offsets(TURNS[:1], ((1, 9), (5,), (2,))), ((0,), (2,), (3,)))

    def test_each_is_the_sums_of_all_ahead_in_one(self):
        for k, offset in enumerate(offsets(TURNS, STRETCHES)):
            self.assertEqual(offset, sums(TURNS, sum(STRETCHES[:k], ())))

    def test_twelve(self):
        told = offsets(TURNS, ((1, 3, 7),) * 12)
        self.assertEqual(told, tuple((k, k, k) for k in range(12)))

    def test_by_names_and_tuples(self):
        told = offsets(turns=TURNS, stretches=((1,), (2,)))
        self.assertEqual(told, ((0, 0, 0), (1, 0, 0)))
        self.assertIs(told.__class__, tuple)
        self.assertTrue(all(offset.__class__ is tuple for offset in told))


class StretchColours(unittest.TestCase):
    def test_behind_noughts_those_of_all(self):
        for highs in STRETCHES + (WHOLE,):
            self.assertEqual(stretch_colours(TURNS, highs, (0, 0, 0)), colours(TURNS, highs))

    def test_behind_an_offset(self):
        self.assertEqual(stretch_colours(TURNS, (1, 1, 7, 3, 7, 7), (1, 5, 2)),
                         ("blue", "red", "gold", "green", "red", "red"))
        self.assertEqual(stretch_colours(TURNS, (1,), (0, 1, 1)), ("red",))
        self.assertEqual(stretch_colours(TURNS, (7, 7), (1, 1, 1)), ("red", "gold"))

    def test_highs_of_none(self):
        self.assertEqual(stretch_colours(TURNS, (), (1, 2, 3)), ())

    def test_a_large_offset(self):
        far = 10 ** 30
        self.assertEqual(stretch_colours(TURNS, (1, 1, 3, 7, 7), (far, far, far)),
                         ("red", "blue", "green", "red", "gold"))
        self.assertEqual(stretch_colours(TURNS, (1, 7), (far - 1, far, far - 1)), ("blue", "red"))

    def test_whole_rounds_more_lead_to_the_same(self):
        for rounds in (1, 2, 10 ** 9, 10 ** 29):
            for offset in product((0, 1), (0, 1), (0, 1, 2)):
                more = tuple(ahead + rounds * len(row[1]) for ahead, row in zip(offset, TURNS))
                self.assertEqual(stretch_colours(TURNS, WHOLE, more), stretch_colours(TURNS, WHOLE, offset))

    def test_whole_rounds_of_one_class(self):
        for k, row in enumerate(TURNS):
            more = tuple(SIXTY * len(row[1]) if place == k else 0 for place in range(3))
            self.assertEqual(stretch_colours(TURNS, WHOLE, more), colours(TURNS, WHOLE))

    def test_by_names_and_a_tuple(self):
        told = stretch_colours(turns=TURNS, highs=(1, 2), offset=(1, 0, 0))
        self.assertEqual(told, ("blue", "red"))
        self.assertIs(told.__class__, tuple)


class Parted(unittest.TestCase):
    def test_in_any_order_as_if_one_had_painted(self):
        ahead = offsets(TURNS, STRETCHES)
        for order in permutations(range(len(STRETCHES))):
            painted = {}
            for k in order:
                painted[k] = stretch_colours(TURNS, STRETCHES[k], ahead[k])
            self.assertEqual(sum([painted[k] for k in range(len(STRETCHES))], ()), colours(TURNS, WHOLE))

    def test_parted_anywhere(self):
        for first in range(len(WHOLE) + 1):
            for second in range(first, len(WHOLE) + 1):
                parts = (WHOLE[:first], WHOLE[first:second], WHOLE[second:])
                told = [stretch_colours(TURNS, part, offset) for part, offset in zip(parts, offsets(TURNS, parts))]
                self.assertEqual(sum(told, ()), colours(TURNS, WHOLE))

    def test_a_row_without_a_space_of_its_class_turns_nothing(self):
        more = TURNS + ((10, ("black", "white")),)
        self.assertEqual(colours(more, WHOLE), colours(TURNS, WHOLE))
        self.assertEqual([offset[:3] for offset in offsets(more, STRETCHES)], list(offsets(TURNS, STRETCHES)))
        self.assertEqual({offset[3] for offset in offsets(more, STRETCHES)}, {0})
        between = TURNS[:2] + ((5, ("black", "white")),) + TURNS[2:]
        highs = tuple(high for high in WHOLE if class_of(between, high) != 2)
        self.assertEqual(highs, WHOLE)
        self.assertEqual(colours(between, WHOLE), colours(TURNS, WHOLE))
