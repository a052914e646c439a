"""Colours by turns [6], [60]."""

import unittest

from leftspaces.turns import class_of, colours, is_turns
from tests.looks import Looks
from tests.things import ODD, SIXTY, as_lists, cut_or_longer, deep, swapped

TURNS = ((1, ("red", "blue")), (3, ("green",)), (7, ("red", "red", "gold")))


class IsTurns(Looks, unittest.TestCase):
    def test_turns(self):
        for thing in (TURNS, TURNS[:2], TURNS[:1], ((1, ("a",)),), ((1, ("red",)), (2, ("red",)), (SIXTY, ("red",)))):
            self.told(is_turns, thing, True)

    def test_of_however_many_rows_and_colours(self):
        self.told(is_turns, tuple((least, ("red", "blue")) for least in range(1, 1001)), True)
        self.told(is_turns, ((1, ("red",) * 1000),), True)
        self.told(is_turns, ((1, ("red",) * 999 + ("Red",)),), False)

    def test_without_rows(self):
        self.told(is_turns, (), False)

    def test_the_first_least_is_one(self):
        for least, expected in ((1, True), (0, False), (2, False), (-1, False), (True, False), (SIXTY, False),
                                (None, False), ("1", False), ((1,), False)):
            self.told(is_turns, ((least, ("red",)),), expected)
            self.told(is_turns, ((least, ("red",)), (9, ("red",))), expected)

    def test_leasts_rise(self):
        for leasts, expected in (((1, 2), True), ((1, 1), False), ((1, 0), False), ((1, -1), False),
                                 ((1, 3, 2), False), ((1, 3, 3), False), ((1, 3, 4), True), ((1, 4, 2, 5), False),
                                 ((2, 1), False), ((1, 2, 3, 2), False), ((0, 1), False), ((1, True), False)):
            self.told(is_turns, tuple((least, ("red",)) for least in leasts), expected)

    def test_leasts_are_numbers(self):
        for least in (True, False, None, "2", (2,), [2], 0):
            self.told(is_turns, ((1, ("red",)), (least, ("blue",))), False)

    def test_void_colours(self):
        self.told(is_turns, ((1, ()),), False)
        self.told(is_turns, ((1, ("red",)), (2, ())), False)
        self.told(is_turns, ((1, ()), (2, ("red",))), False)

    def test_colours_that_are_alike(self):
        self.told(is_turns, ((1, ("red", "red")),), True)

    def test_colours_are_words_in_a_tuple(self):
        for ring in (["red"], "red", "r", None, 1, ("Red",), ("",), ("red", ""), ("a b",), ("abcdefghi",), (1,),
                     ("red", None), (("red",),), ("red", True)):
            self.told(is_turns, ((1, ring),), False)
            self.told(is_turns, ((1, ("red",)), (4, ring)), False)
        self.told(is_turns, ((1, ("abcdefgh", "a")),), True)

    def test_rows_are_pairs(self):
        for more in (None, 1, "a", ("red",)):
            for row in cut_or_longer(TURNS[0], more):
                self.told(is_turns, (row,), False)
        self.told(is_turns, ([1, ("red",)],), False)

    def test_other_things(self):
        for thing in ODD + (TURNS[0], list(TURNS), as_lists(TURNS), 1, 0, deep(TURNS, 26, tuple), "1 red"):
            self.told(is_turns, thing, False)

    def test_any_odd_thing_in_any_place(self):
        for odd in ODD + (0, -1):
            for thing in swapped(TURNS, odd):
                self.told(is_turns, thing, False)


class ClassOf(unittest.TestCase):
    def test_the_last_row_whose_least_is_no_more(self):
        told = [class_of(TURNS, high) for high in range(1, 10)]
        self.assertEqual(told, [0, 0, 1, 1, 1, 1, 2, 2, 2])

    def test_just_at_a_least_and_one_below(self):
        turns = ((1, ("a",)), (2, ("b",)), (10 ** 9, ("c",)))
        self.assertEqual([class_of(turns, high) for high in (1, 2, 10 ** 9 - 1, 10 ** 9)], [0, 1, 1, 2])

    def test_a_high_far_out(self):
        self.assertEqual(class_of(TURNS, 10 ** 9), 2)
        self.assertEqual(class_of(TURNS[:1], 10 ** 9), 0)

    def test_by_names(self):
        self.assertEqual(class_of(turns=TURNS, high=3), 1)


class Colours(unittest.TestCase):
    def test_each_next_one_has_the_next_colour_of_its_class(self):
        self.assertEqual(colours(TURNS, (1, 2, 1, 2)), ("red", "blue", "red", "blue"))
        self.assertEqual(colours(TURNS, (3, 1, 4, 2, 6)), ("green", "red", "green", "blue", "green"))

    def test_colours_that_are_alike(self):
        self.assertEqual(colours(TURNS, (7, 8, 9, 7, 7)), ("red", "red", "gold", "red", "red"))

    def test_classes_go_by_themselves(self):
        self.assertEqual(colours(TURNS, (7, 1, 8, 3, 2, 9, 1)), ("red", "red", "red", "green", "blue", "gold", "red"))

    def test_highs_of_none(self):
        self.assertEqual(colours(TURNS, ()), ())

    def test_just_at_a_least_and_one_below(self):
        turns = ((1, ("a", "b")), (10 ** 9, ("c", "d")))
        self.assertEqual(colours(turns, (10 ** 9 - 1, 10 ** 9, 10 ** 9, 1)), ("a", "c", "d", "b"))

    def test_of_sixty(self):
        self.assertEqual(colours(TURNS, (2,) * 60), ("red", "blue") * 30)
        self.assertEqual(colours(TURNS, (9,) * 60), ("red", "red", "gold") * 20)

    def test_by_names_and_a_tuple(self):
        told = colours(turns=TURNS, highs=(1, 2))
        self.assertEqual(told, ("red", "blue"))
        self.assertIs(told.__class__, tuple)

    def test_the_same_when_asked_again(self):
        self.assertEqual(colours(TURNS, (1,)), colours(TURNS, (1,)))
