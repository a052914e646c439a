"""CANS and BILLS, asked of any thing [2], [6], [40]."""

import unittest

from leftspaces.cans import are_cans, is_bill
from tests.looks import Looks
from tests.things import ODD, SIXTY, as_lists, cut_or_longer, deep, swapped

CANS = (("a", "e"), (), ("e", "i", "o"), ("z",))
BILL = (("a", 2), ("e", 0), ("z", 99))
LETTERS = tuple("abcdefghijklmnopqrstuvwxyz")


class AreCans(Looks, unittest.TestCase):
    def test_cans(self):
        for thing in (CANS, CANS[1:], CANS[:1], (LETTERS,), (("a",), ("a",)), (("b",), ("a",))):
            self.told(are_cans, thing, True)

    def test_void(self):
        self.told(are_cans, (), True)
        self.told(are_cans, ((),), True)
        self.told(are_cans, ((), ()), True)

    def test_of_however_many_spaces(self):
        self.told(are_cans, (("a",),) * 2500, True)
        self.told(are_cans, ((),) * 5000, True)
        self.told(are_cans, (LETTERS,) * 190, True)
        self.told(are_cans, (("a",),) * 2499 + (("b", "a"),), False)

    def test_letters_rise(self):
        for can, expected in ((("a", "b"), True), (("b", "a"), False), (("a", "a"), False), (("a", "z"), True),
                              (("a", "c", "b"), False), (("a", "b", "b"), False), (LETTERS[1:], True),
                              (LETTERS[::-1], False)):
            self.told(are_cans, (can,), expected)
            self.told(are_cans, CANS + (can,), expected)

    def test_of_letters_in_tuples(self):
        for can in ([], ["a"], "a", "", None, 1, True, ("A",), ("",), ("ab",), ("a", ""), ("a", None), (1,), (True,),
                    (("a",),), ("?",), (" ",), ("{",), ("`",), ("1",)):
            self.told(are_cans, (can,), False)
            self.told(are_cans, CANS + (can,), False)

    def test_other_things(self):
        for thing in ODD + (list(CANS), as_lists(CANS), ("a", "e"), BILL, 0, 1, SIXTY, "a", deep(CANS, 27, tuple),
                            deep("a", 30, list), {"a": 1}, (CANS,)):
            expected = isinstance(thing, tuple) and thing in ((), ((),))
            self.told(are_cans, thing, expected)

    def test_any_odd_thing_in_any_place(self):
        for odd in ODD + (0, -1, SIXTY):
            for place, _ in enumerate(CANS):
                self.told(are_cans, CANS[:place] + (odd,) + CANS[place + 1:], odd == () and isinstance(odd, tuple))
            for thing in swapped(CANS[2], odd):
                self.told(are_cans, CANS[:2] + (thing,), thing == () and isinstance(thing, tuple))


class IsBill(Looks, unittest.TestCase):
    def test_bills(self):
        for thing in (BILL, BILL[1:], BILL[:1], (("a", 0),), (("m", 1), ("n", 1))):
            self.told(is_bill, thing, True)

    def test_without_rows(self):
        self.told(is_bill, (), True)

    def test_many_is_a_number_from_nought_on(self):
        for many, expected in ((0, True), (1, True), (99, True), (100, True), (SIXTY, True), (-1, False),
                               (-SIXTY, False), (True, False), (False, False), (None, False), ("1", False),
                               ((1,), False), ([1], False)):
            self.told(is_bill, (("a", many),), expected)
            self.told(is_bill, BILL[:2] + (("f", many),), expected)

    def test_letters_rise(self):
        for letters, expected in (("ab", True), ("ba", False), ("aa", False), ("abz", True), ("azb", False),
                                  ("abb", False), ("".join(LETTERS), True)):
            self.told(is_bill, tuple((letter, 1) for letter in letters), expected)

    def test_a_letter_twice_with_another_many(self):
        self.told(is_bill, (("a", 1), ("a", 2)), False)
        self.told(is_bill, (("a", 1), ("b", 1), ("b", 2)), False)

    def test_of_letters(self):
        for odd in ("", "A", "ab", "?", " ", "{", "1", None, 1, True, ("a",), ["a"], ()):
            self.told(is_bill, ((odd, 1),), False)
            self.told(is_bill, BILL[:1] + ((odd, 1),), False)

    def test_rows_are_pairs(self):
        for more in (None, 1, "b", ("a",)):
            for row in cut_or_longer(BILL[0], more):
                self.told(is_bill, (row,), False)
        for row in (["a", 1], "a1", "a", (), (1, "a")):
            self.told(is_bill, (row,), False)

    def test_other_things(self):
        for thing in ODD + (list(BILL), as_lists(BILL), BILL[0], CANS, 0, 1, SIXTY, deep(BILL, 27, tuple),
                            deep("a", 30, list), dict(BILL), (BILL,), (("a", 1),) * 1600):
            self.told(is_bill, thing, thing == () and isinstance(thing, tuple))

    def test_any_odd_thing_in_any_place(self):
        for odd in ODD + (-1,):
            for thing in swapped(BILL, odd):
                self.told(is_bill, thing, thing == () and isinstance(thing, tuple))
