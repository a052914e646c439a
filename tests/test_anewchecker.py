"""The checker of what is told of the fewest lines ANEW [56], [57], [58]."""

import copy
import unittest
from itertools import product
from random import Random

from leftspaces.anew import fewest_anew
from leftspaces.anewchecker import lets_anew
from leftspaces.bending import bent
from leftspaces.errors import NoLay, NoPaper
from tests.growing import dear_line, fewest, lines_anew, resize, small_growths
from tests.refusals import Refusals
from tests.things import ODD, SIXTY, all_lays, as_lists, cut_or_longer, deep, is_lay, swapped

ANN = ("ann", 3, 4, ("nn", "was", "old"))
LAY = (1, 2, 3)
GROWN = (ANN, LAY, 2, 4)
PAPER = (1, (1, 2, 3), ((1, 2, 3, 3), (2, 1, 2, 2), (5, 1, 1, 1), (4, 4, 4, 0)))
NEWER, PRICES = PAPER[1:]
ROWS = 4


def first_fault(section, lay, high, wide, thing, width, most):
    """Why a tuple of a NUMBER, NUMBERS and rows of as many NUMBERS as there are counts is refused by [58], or None."""
    number, newer, prices = thing
    if not newer or not is_lay(resize(section, high, wide), newer, width) or len(newer) > most:
        return ("lay", -1)
    line = dear_line(section, lay, high, wide, width, most, prices)
    if line is not None:
        return ("price", line)
    if number != len(lines_anew(section, lay, high, wide, newer)):
        return ("number", -1)
    return ("few", -1) if number != prices[0][0] - prices[-1][-1] else None


def with_row(k, row, prices=PRICES):
    """PRICES with another thing at row k."""
    return prices[:k] + (row,) + prices[k + 1:]


class Let(unittest.TestCase):
    def test_its_number_is_told(self):
        told = lets_anew(*GROWN, PAPER, 9)
        self.assertEqual(told, 1)
        self.assertIs(told.__class__, int)
        self.assertEqual(lets_anew(*GROWN, PAPER, 9, None), 1)
        self.assertEqual(lets_anew(*GROWN, PAPER, 9, 3), 1)

    def test_by_names(self):
        told = lets_anew(most=3, width=9, thing=PAPER, wide=4, high=2, lay=LAY, section=ANN)
        self.assertEqual(told, 1)

    def test_a_width_left_out_is_thirty(self):
        section = ("ann", 1, 1, ("a",) * 15)
        paper = fewest_anew(section, (15,), 1, 2, 30)
        self.assertEqual(lets_anew(section, (15,), 1, 2, paper), paper[0])
        with self.assertRaises(NoPaper):
            lets_anew(section, (15,), 1, 2, paper, 31)

    def test_any_lay_with_as_few(self):
        section, lay = ("ann", 1, 1, ("a", "b", "c")), (3,)
        paper = fewest_anew(section, lay, 1, 2, 20, 2)
        newers = [newer for newer in all_lays(resize(section, 1, 2), 20, 2)
                  if len(lines_anew(section, lay, 1, 2, newer)) == paper[0]]
        for newer in newers:
            self.assertEqual(lets_anew(section, lay, 1, 2, (paper[0], newer, paper[2]), 20, 2), 1)
        self.assertEqual(newers, [(3,)])

    def test_any_prices_that_let_none_have_fewer(self):
        for more in (1, -1, 1000, -SIXTY, SIXTY):
            prices = tuple(tuple(price + more for price in row) for row in PRICES)
            self.assertEqual(lets_anew(*GROWN, (1, NEWER, prices), 9), 1)
        for prices in (with_row(0, (1, -SIXTY, 0, 3)), with_row(3, (5, SIXTY, 4, 0)), with_row(0, (1, 2, 3, 2)),
                       ((1, 1, 1, 1), (1, 1, 1, 1), (1, 1, 1, 1), (0, 0, 0, 0))):
            self.assertEqual(lets_anew(*GROWN, (1, NEWER, prices), 9), 1)

    def test_the_thing_is_as_it_was(self):
        for thing in (PAPER, [1, [2], [[3]]], (1, [1, 2, 3], [])):
            before = copy.deepcopy(thing)
            try:
                lets_anew(*GROWN, thing, 9)
            except NoPaper:
                pass
            self.assertEqual(repr(thing), repr(before))


class Refused(Refusals, unittest.TestCase):
    def refuses(self, word, at, thing, *more, grown=GROWN):
        self.check_no_paper(word, at, lets_anew, *grown, thing, *(more or (9,)))

    def test_the_paper_here_is_one(self):
        self.assertIsNone(first_fault(*GROWN, PAPER, 9, 3))

    def test_no_such_tuple(self):
        for thing in ODD + (list(PAPER), as_lists(PAPER), 1, 0, SIXTY, LAY, PAPER[:2], PAPER + (1,), (PAPER,), PRICES,
                            deep(PAPER, 26, tuple), deep(1, 30, list), (1,) * 5000, "a" * 4000, dict([(1, 2)])):
            self.refuses("shape", -1, thing)

    def test_a_thing_too_many_or_too_few(self):
        for more in (None, 1, (), (1, 2, 3)):
            for thing in cut_or_longer(PAPER, more):
                self.refuses("shape", -1, thing)

    def test_an_odd_thing_in_the_place_of_one_of_three(self):
        for odd in ODD:
            self.refuses("shape", -1, (odd, NEWER, PRICES))
            if odd != ():
                self.refuses("shape", -1, (1, odd, PRICES))
            if not isinstance(odd, tuple):
                self.refuses("shape", -1, (1, NEWER, odd))

    def test_an_odd_thing_in_the_lay(self):
        for odd in ODD:
            for newer in swapped(NEWER, odd):
                if newer != ():
                    self.refuses("shape", -1, (1, newer, PRICES))
        self.refuses("shape", -1, (1, (1, 2, True), PRICES))
        self.refuses("shape", -1, (True, NEWER, PRICES))

    def test_no_lay(self):
        for newer in ((), (3,), (1, 2), (1, 2, 2), (1, 2, 4), (-1, 2, 3), (2, 1, 3), (2, 3), (3, 3, 3), (1, 2, 3, 3),
                      LAY * 9, (SIXTY,)):
            self.refuses("lay", -1, (1, newer, PRICES))

    def test_a_lay_of_the_elder_size_or_another_width(self):
        section = ("ann", 1, 1, ("nn", "was"))
        self.refuses("lay", -1, (0, (2,), ((0, 0, 0), (0, 0, 0))), 30, grown=(section, (2,), 2, 1))
        self.refuses("lay", -1, (0, (2,), ((0, 0, 0), (0, 0, 0))), 6, grown=(section, (2,), 1, 1))
        self.refuses("lay", -1, (0, (1, 2), ((0, 0, 0),) * 3), 5, grown=(section, (1, 2), 1, 4))

    def test_a_lay_of_more_lines_than_most(self):
        paper = fewest_anew(ANN, (0, 0, 0, 3), 3, 4, 11, 4)
        self.assertEqual(paper[1], (0, 0, 0, 3))
        self.assertEqual(lets_anew(ANN, (0, 0, 0, 3), 3, 4, paper, 11, 4), 0)
        self.refuses("lay", -1, paper, 11, 3, grown=(ANN, (0, 0, 0, 3), 3, 4))
        self.refuses("lay", -1, (2, (0, 0, 0, 3), PRICES), 11, grown=(ANN, (3, 3, 3), 3, 4))

    def test_a_row_that_is_none(self):
        for k in range(ROWS):
            for odd in ODD + (list(PRICES[k]), as_lists(PRICES[k]), 1, PRICES):
                self.refuses("row", k, (1, NEWER, with_row(k, odd)))
            for more in (None, 1):
                for row in cut_or_longer(PRICES[k], more):
                    self.refuses("row", k, (1, NEWER, with_row(k, row)))
            for count, odd in product(range(4), ODD):
                self.refuses("row", k, (1, NEWER, with_row(k, PRICES[k][:count] + (odd,) + PRICES[k][count + 1:])))

    def test_rows_too_few_or_too_many(self):
        for k in range(ROWS):
            self.refuses("row", k, (1, NEWER, PRICES[:k]))
        for more in (PRICES[:1], (None,), PRICES, ((1, 2),) * 4000, (PRICES[0], None)):
            self.refuses("row", ROWS, (1, NEWER, PRICES + more))

    def test_the_first_row_of_all_these(self):
        self.refuses("row", 1, (1, NEWER, (PRICES[0], None, PRICES[2], ())))
        self.refuses("row", 0, (1, NEWER, (None,)))
        self.refuses("row", 1, (1, NEWER, (PRICES[0], None)))
        self.refuses("row", 2, (1, NEWER, (PRICES[0], PRICES[1], None, PRICES[3], None)))

    def test_as_many_rows_as_most_or_the_elder_lay_has_lines(self):
        long = (0, 0, 0, 0, 3)
        for lay, most, rows in ((LAY, 3, 4), (LAY, 5, 6), (LAY, None, 4), (long, 3, 6), (long, None, 6)):
            paper = fewest_anew(ANN, lay, 3, 4, 11, most)
            self.assertEqual(len(paper[2]), rows)
            self.assertEqual(lets_anew(ANN, lay, 3, 4, paper, 11, most), paper[0])
            self.refuses("row", rows - 1, paper[:2] + (paper[2][:-1],), 11, most, grown=(ANN, lay, 3, 4))
            self.refuses("row", rows, paper[:2] + (paper[2] + paper[2][-1:],), 11, most, grown=(ANN, lay, 3, 4))

    def test_a_most_far_out(self):
        self.refuses("row", 4, PAPER, 9, SIXTY)
        self.refuses("row", 0, (1, NEWER, ()), 9, SIXTY)
        self.refuses("shape", -1, None, 9, SIXTY)

    def test_prices_too_far_apart(self):
        self.refuses("price", 0, (1, NEWER, with_row(0, (2, 2, 3, 3))))
        self.refuses("price", 0, (1, NEWER, with_row(0, (1, 3, 3, 3))))
        self.refuses("price", 0, (1, NEWER, with_row(0, (1, 2, 3, 4))))
        self.refuses("price", 0, (1, NEWER, with_row(1, (2, 0, 2, 2))))
        self.refuses("price", 1, (1, NEWER, with_row(1, (2, 2, 2, 2))))
        self.refuses("price", 1, (1, NEWER, with_row(2, (5, 1, 0, 1))))
        self.refuses("price", 2, (1, NEWER, with_row(2, (5, 1, 2, 1))))
        self.refuses("price", 2, (1, NEWER, with_row(3, (4, 4, 4, -1))))
        self.refuses("price", 0, (1, NEWER, ((SIXTY,) * 4, (0,) * 4, (SIXTY,) * 4, (0,) * 4)))
        self.refuses("price", 1, (1, NEWER, ((0,) * 4, (SIXTY,) * 4, (0,) * 4, (-SIXTY,) * 4)))

    def test_lines_from_most_on_have_no_words(self):
        lay = (0, 0, 0, 1, 2, 3)
        grown = (ANN, lay, 3, 4)
        paper = fewest_anew(*grown, 9, 3)
        self.assertEqual(lets_anew(*grown, paper, 9, 3), 6)
        self.refuses("lay", -1, paper[:1] + (lay,) + paper[2:], 9, 3, grown=grown)
        # By STEPS without words each of the lines 3 to 5 costs 1; by the elder LAY's words it would cost nothing.
        self.assertEqual([paper[2][k][3] for k in (3, 4, 5, 6)], [3, 2, 1, 0])
        prices = fewest_anew(*grown, 9, 6)[2]
        self.refuses("few", -1, (6, (1, 2, 3), prices), 9, 3, grown=grown)

    def test_another_number(self):
        for number in (0, 2, 3, -1, SIXTY):
            self.refuses("number", -1, (number, NEWER, PRICES))
        self.refuses("number", -1, (1, (1, 1, 3), PRICES))

    def test_prices_that_let_fewer(self):
        self.refuses("few", -1, (1, NEWER, with_row(0, (0, 2, 3, 3))))
        self.refuses("few", -1, (1, NEWER, with_row(3, (4, 4, 4, 1))))
        self.refuses("few", -1, (2, (1, 1, 3), PRICES))
        self.refuses("few", -1, (1, NEWER, ((0,) * 4,) * 4))

    def test_the_order_of_the_words(self):
        self.refuses("shape", -1, (True, (9,), (None,)))
        self.refuses("shape", -1, (7, ("a",), ()))
        self.refuses("shape", -1, (7, (9,), []))
        self.refuses("lay", -1, (7, (9,), ()))
        self.refuses("lay", -1, (7, (9,), PRICES[:2] + (None,)))
        self.refuses("row", 3, (7, NEWER, ((SIXTY,) * 4, (0,) * 4, (0,) * 4)))
        self.refuses("row", 3, (7, NEWER, ((SIXTY,) * 4, (0,) * 4, (0,) * 4, (0,) * 3)))
        self.refuses("price", 0, (7, NEWER, with_row(0, (SIXTY,) * 4)))
        self.refuses("price", 0, (1, NEWER, with_row(0, (SIXTY,) * 4)))
        self.refuses("number", -1, (2, NEWER, ((0,) * 4,) * 4))

    def test_a_lay_there_is_not(self):
        for thing in (PAPER, None, (), (1, (9,), ()), (1, NEWER, ()), SIXTY):
            self.check_refused(NoLay, (1,), lets_anew, *GROWN, thing, 2)
            self.check_refused(NoLay, (0,), lets_anew, *GROWN, thing, 1, 0)
            self.check_refused(NoLay, ("most",), lets_anew, *GROWN, thing, 9, 2)
            self.check_refused(NoLay, ("most",), lets_anew, *GROWN, thing, 9, 0)


class SmallSections(Refusals, unittest.TestCase):
    def check(self, grown, thing, width, most):
        """It is refused by the first word that is due, or else no LAY has fewer lines ANEW."""
        fault = first_fault(*grown, thing, width, most)
        if fault is not None:
            self.check_no_paper(*fault, lets_anew, *grown, thing, width, most)
            return False
        self.assertEqual(lets_anew(*grown, thing, width, most), thing[0])
        self.assertEqual(thing[0], fewest(*grown, width, most))
        return True

    def test_one_price_more_or_less(self):
        told = []
        for section, lay, high, wide, width in small_growths(25, 63):
            grown = (section, lay, high, wide)
            most = len(bent(resize(section, high, wide), width))
            number, newer, prices = fewest_anew(*grown, width, most)
            for k, row in enumerate(prices):
                for count, price in enumerate(row):
                    for more in (-1, 1):
                        other = with_row(k, row[:count] + (price + more,) + row[count + 1:], prices)
                        told.append(self.check(grown, (number, newer, other), width, most))
        self.assertGreater(told.count(True), 100)
        self.assertGreater(told.count(False), 100)

    def test_any_lay_and_number(self):
        for section, lay, high, wide, width in small_growths(25, 64):
            grown = (section, lay, high, wide)
            most = len(bent(resize(section, high, wide), width)) + 1
            number, _, prices = fewest_anew(*grown, width, most)
            lays = list(all_lays(resize(section, high, wide), width, min(most + 1, 5)))
            told = [self.check(grown, (number + more, newer, prices), width, most)
                    for newer in lays for more in (-1, 0, 1)]
            if most <= 5:
                self.assertIn(True, told)

    def test_prices_whoever_wrote_them(self):
        chance = Random(65)
        told = []
        for section, lay, high, wide, width in small_growths(150, 65):
            grown = (section, lay, high, wide)
            most = len(bent(resize(section, high, wide), width))
            rows = max(most, len(lay)) + 1
            number, newer, _ = fewest_anew(*grown, width, most)
            prices = tuple(tuple(chance.randint(0, 1) for _ in range(len(section[3]) + 1)) for _ in range(rows))
            told.append(self.check(grown, (number, newer, prices), width, most))
            falling = tuple((rows - 1 - k,) * (len(section[3]) + 1) for k in range(rows))
            told.append(self.check(grown, (number, newer, falling), width, most))
        self.assertIn(True, told)
        self.assertIn(False, told)
