"""ROWS [5], [25]."""

import unittest

from leftspaces.rows import is_row
from tests.looks import Looks
from tests.things import ODD, SIXTY, as_lists, cut_or_longer, deep, swapped

ROW = (("a", "e"), ("nn", "w?s", "???"))


class IsRow(Looks, unittest.TestCase):
    def test_rows(self):
        for thing in (ROW, (None, ("nn",)), (("z",), ("?",)), (("a", "b", "z"), ("abcdefgh", "????????")),
                      (None, ("a", "a", "a"))):
            self.told(is_row, thing, True)

    def test_a_lost_mark_and_one_of_no_letters(self):
        self.told(is_row, (None, ROW[1]), True)
        self.told(is_row, ((), ROW[1]), True)

    def test_a_first_pattern_of_eight_signs(self):
        self.told(is_row, (None, ("abcdefgh",)), True)
        self.told(is_row, (None, ("????????", "a")), True)
        self.told(is_row, (None, ("?????????", "a")), False)

    def test_of_however_many_patterns(self):
        self.told(is_row, (None, ("w?s",) * 4000), True)
        self.told(is_row, (None, ("w?s",) * 3999 + ("W?s",)), False)
        self.told(is_row, (tuple("abcdefghijklmnopqrstuvwxyz"), ("a",)), True)

    def test_guides_rise(self):
        for guide, expected in ((("a", "b"), True), (("b", "a"), False), (("a", "a"), False), (("a", "b", "b"), False),
                                (("a", "c", "b"), False), (("a", "b", "c"), True)):
            self.told(is_row, (guide, ("nn",)), expected)

    def test_guides_are_letters_in_a_tuple(self):
        for guide in ("a", "", "ae", ["a"], [], 0, 1, True, False, ("ab",), ("A",), ("",), ("?",), ("a", None), (None,),
                      (1,), (("a",),), {"a": 1}):
            self.told(is_row, (guide, ("nn",)), False)

    def test_without_patterns(self):
        for patterns in ((), [], None, "", ""):
            self.told(is_row, (None, patterns), False)

    def test_patterns_are_patterns_in_a_tuple(self):
        for pattern in ("", "A", "a b", "abcdefghi", "*", None, 1, True, ("a",), ["a"], ()):
            for patterns in ((pattern,), (pattern, "nn"), ("nn", pattern), ("nn", pattern, "was")):
                self.told(is_row, (None, patterns), False)
        for patterns in (["nn"], "nn", "n", {"nn": 1}, 1):
            self.told(is_row, (None, patterns), False)

    def test_a_thing_too_many_or_too_few(self):
        for more in (None, 1, "a", (), ("a",)):
            for thing in cut_or_longer(ROW, more):
                self.told(is_row, thing, False)

    def test_other_things(self):
        for thing in ODD + (ROW[0], ROW[1], list(ROW), as_lists(ROW), (ROW,), 0, 1, SIXTY, deep(ROW, 27, tuple),
                            ("a",) * 5000, "a" * 4000, deep("a", 30, list), (ROW[0], list(ROW[1])),
                            (list(ROW[0]), ROW[1])):
            self.told(is_row, thing, False)

    def test_any_odd_thing_in_any_place(self):
        # Of the odd things these may stand there: a lost mark, one of no letters, and a PATTERN.
        good = [(None, ROW[1]), ((), ROW[1]), (ROW[0], ("?", "w?s", "???")), (ROW[0], ("nn", "?", "???")),
                (ROW[0], ("nn", "w?s", "?"))]
        for odd in ODD + (0, -1):
            for thing in swapped(ROW, odd):
                self.told(is_row, thing, thing in good)
