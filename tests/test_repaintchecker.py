"""A checker of REPAINT PAPERS [41], [48], [49]."""

import unittest
from random import Random

from leftspaces.errors import NoWorld
from leftspaces.repaintchecker import lets_repainted
from leftspaces.repainting import fewest_repainted
from tests.filling import all_worlds, is_world, small_fillings
from tests.papers import anew, dear_space, some_painted, sum_of, why_no_world
from tests.refusals import Refusals
from tests.things import ODD, SIXTY, as_lists, cut_or_longer, deep, swapped

CANS = (("a", "b"), ("a", "b"), ("a", "c"))
BILL = (("a", 1), ("b", 1))
PAINTED = ("a", "a", None)
WORLD = ("a", "b", "c")
PRICES = ((1, 1, 0), (-1, 0))
PAPER = (1, WORLD, PRICES)


class Checks(Refusals):
    """What a test of this checker asks."""

    def lets(self, number, thing, cans=CANS, bill=BILL, painted=PAINTED):
        before = repr((cans, bill, painted, thing))
        told = lets_repainted(cans, bill, painted, thing)
        self.assertIs(told.__class__, int)
        self.assertEqual(told, number)
        self.assertEqual(repr((cans, bill, painted, thing)), before)

    def refuses(self, word, at, thing, cans=CANS, bill=BILL, painted=PAINTED):
        before = repr((cans, bill, painted, thing))
        self.check_no_paper(word, at, lets_repainted, cans, bill, painted, thing)
        self.assertEqual(repr((cans, bill, painted, thing)), before)


class LetBy(Checks, unittest.TestCase):
    def test_papers(self):
        self.lets(1, PAPER)
        self.lets(1, (1, ("b", "a", "c"), PRICES))
        self.lets(1, (1, WORLD, ((0, 0, 0), (0, 1))))
        self.lets(0, (0, WORLD, ((0, 0, 0), (0, 0))), painted=(None,) * 3)

    def test_prices_far_off_that_come_to_the_same(self):
        self.lets(1, (1, WORLD, ((1, 1, 0), (-1, 0))))
        more = 10 ** 20
        # Each space can have but one of a and b here: all may be priced so much more as these rows less.
        cans = CANS[:2]
        self.lets(1, (1, WORLD[:2], ((1 + more, 1 + more), (-1 - more, -more))), cans=cans, painted=PAINTED[:2])

    def test_no_space(self):
        self.lets(0, (0, (), ((), ())), cans=(), bill=(), painted=())
        self.lets(0, (0, (), ((), (5, -7))), cans=(), bill=(("a", 0), ("b", 0)), painted=())
        self.refuses("number", -1, (1, (), ((), ())), cans=(), bill=(), painted=())

    def test_by_names(self):
        self.assertEqual(lets_repainted(thing=PAPER, painted=PAINTED, bill=BILL, cans=CANS), 1)


class Shape(Checks, unittest.TestCase):
    def test_no_tuple_of_three(self):
        for thing in ODD + (0, SIXTY, list(PAPER), as_lists(PAPER), deep(PAPER, 20, list)):
            self.refuses("shape", -1, thing)
        for thing in cut_or_longer(PAPER, ()):
            self.refuses("shape", -1, thing)

    def test_no_number(self):
        for odd in ODD + ("1", (1,)):
            self.refuses("shape", -1, (odd, WORLD, PRICES))

    def test_no_pair_of_tuples_of_numbers(self):
        for odd in ODD + (0, list(PRICES), as_lists(PRICES), *cut_or_longer(PRICES, (0,))):
            self.refuses("shape", -1, (1, WORLD, odd))
        for odd in ODD + ("1", [1]):
            for prices in list(swapped(PRICES, odd))[1:]:
                self.refuses("shape", -1, (1, WORLD, prices))

    def test_not_as_many_numbers(self):
        for spaces in ((), (1, 1), (1, 1, 0, 0)):
            self.refuses("shape", -1, (1, WORLD, (spaces, PRICES[1])))
        for rows in ((), (-1,), (-1, 0, 0)):
            self.refuses("shape", -1, (1, WORLD, (PRICES[0], rows)))
        self.refuses("shape", -1, (1, WORLD, PRICES[::-1]))

    def test_of_the_world(self):
        for odd in ODD + (list(WORLD), WORLD[:2], WORLD + ("a",), ("a", "b", None), 0):
            self.refuses("shape", -1, (1, odd, PRICES))


class Refused(Checks, unittest.TestCase):
    def test_no_world(self):
        self.refuses("can", 0, (1, ("c", "b", "c"), PRICES))
        self.refuses("can", 2, (1, ("a", "b", "b"), PRICES))
        self.refuses("bill", 0, (1, ("b", "b", "c"), PRICES))
        self.refuses("bill", 0, (1, ("a", "b", "a"), PRICES))
        self.refuses("bill", 1, (0, ("a", "a", "c"), PRICES), bill=(("a", 2), ("b", 1)))

    def test_another_number_is_painted_anew(self):
        for number in (-1, 0, 2, 3, SIXTY):
            self.refuses("number", -1, (number, WORLD, PRICES))
        self.refuses("number", -1, (1, WORLD, PRICES), painted=(None, "a", "a"))
        self.refuses("number", -1, (1, WORLD, PRICES), painted=("a", "b", "c"))

    def test_prices_above_what_they_may_be(self):
        for spaces, rows, k in (((2, 1, 0), (-1, 0), 0), ((1, 2, 0), (-1, 0), 1), ((1, 1, 1), (-1, 0), 2),
                                ((1, 1, 0), (0, 0), 0), ((0, 1, 0), (0, 0), 1), ((0, 0, 0), (1, 0), 0),
                                ((0, 0, 0), (0, 2), 0), ((0, 0, SIXTY), (0, 0), 2), ((-9, 0, 0), (0, 2), 1)):
            self.refuses("price", k, (1, WORLD, (spaces, rows)))

    def test_at_most_nought_where_nothing_is_painted(self):
        self.refuses("price", 2, (1, WORLD, ((1, 1, 1), (-1, 0))))
        self.lets(2, (2, WORLD, ((1, 1, 1), (-1, 0))), painted=("a", "a", "z"))

    def test_a_letter_that_is_not_billed_has_no_price(self):
        self.lets(1, (1, ("c",), ((1,), ())), cans=(("c",),), bill=(), painted=("z",))
        self.refuses("price", 0, (1, ("c",), ((2,), (-1,))), cans=(("c",),), bill=(("a", 0),), painted=("z",))

    def test_another_sum(self):
        self.refuses("sum", -1, (1, WORLD, ((0, 0, 0), (0, 0))))
        self.refuses("sum", -1, (1, WORLD, ((1, 0, 0), (-1, 0))))
        self.refuses("sum", -1, (1, WORLD, ((1, 1, -1), (-1, 0))))
        self.refuses("sum", -1, (1, WORLD, ((-SIXTY, 0, 0), (0, 0))))
        # One more is painted ANEW in this WORLD than has to be.
        self.refuses("sum", -1, (2, ("b", "a", "c"), ((0, 0, 0), (0, 0))), painted=("a", "b", "c"))

    def test_each_row_counts_its_many_times(self):
        cans, bill, painted = (("a", "b"),) * 3, (("b", 2),), ("a", "a", "a")
        self.lets(2, (2, ("a", "b", "b"), ((0, 0, 0), (1,))), cans, bill, painted)
        self.refuses("sum", -1, (2, ("a", "b", "b"), ((0, 0, 0), (0,))), cans, bill, painted)

    def test_two_due_at_once(self):
        dear = ((9, 9, 9), (9, 9))
        self.refuses("shape", -1, (9, ("z", "z", "z"), ((9, 9), (9, 9))))
        self.refuses("shape", -1, (9, ("z", "z"), dear))
        self.refuses("can", 0, (9, ("z", "z", "z"), dear))
        self.refuses("bill", 0, (9, ("b", "b", "c"), dear))
        self.refuses("number", -1, (9, WORLD, dear))
        self.refuses("price", 0, (1, WORLD, dear))


class Small(Checks, unittest.TestCase):
    def test_papers_otherwise(self):
        chance = Random(49)
        words = set()
        for cans, bill in small_fillings(500, 490):
            painted = some_painted(chance, cans)
            try:
                paper = fewest_repainted(cans, bill, painted)
            except NoWorld:
                continue
            self.lets(paper[0], paper, cans, bill, painted)
            for thing in self.otherwise(chance, cans, paper):
                why = self.why(cans, bill, painted, thing)
                words.add(why and why[0])
                if why is None:
                    self.lets(thing[0], thing, cans, bill, painted)
                    # Whoever wrote it, no WORLD has fewer.
                    self.assertEqual(thing[0], min(anew(painted, letters) for letters in all_worlds(cans, bill)))
                else:
                    self.refuses(*why, thing, cans, bill, painted)
        self.assertEqual(words, {None, "can", "bill", "number", "price", "sum"})

    def why(self, cans, bill, painted, thing):
        """Why it is refused, or None, by the words of [49]."""
        number, letters, prices = thing
        why = why_no_world(cans, bill, letters)
        self.assertEqual(why is None, is_world(cans, bill, letters))
        if why is not None:
            return why
        if number != anew(painted, letters):
            return "number", -1
        space = dear_space(cans, bill, painted, prices)
        if space is not None:
            return "price", space
        return ("sum", -1) if number != sum_of(bill, prices) else None

    def otherwise(self, chance, cans, paper):
        """Papers that are otherwise at one place or at two."""
        number, letters, (spaces, rows) = paper
        yield number + chance.choice((-1, 1)), letters, (spaces, rows)
        other = tuple(chance.choice(can + ("z",) * (chance.random() < 0.1)) for can in cans)
        yield number, other, (spaces, rows)
        more = [chance.choice((-1, 0, 0, 0, 1)) for _ in spaces]
        yield number, letters, (tuple(a + b for a, b in zip(spaces, more)), rows)
        more = [chance.choice((-1, 0, 0, 0, 1)) for _ in rows]
        yield number, letters, (spaces, tuple(a + b for a, b in zip(rows, more)))
        yield number, letters, (tuple(a + 1 for a in spaces), tuple(a - 1 for a in rows))
