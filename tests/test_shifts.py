"""Which NAMES are TURNED where a book is otherwise, and how far each is SHIFTED [60], [65], [66]."""

import unittest
from itertools import product
from random import Random

from leftspaces.errors import NoName
from leftspaces.shifts import shift, turned
from tests.refusals import Refusals

TURNS = ((1, ("red", "blue")), (3, ("green", "gold", "green")))
LOW = (("ann", 1), ("bob", 2), ("cat", 1), ("dan", 2))


def class_at(turns, high):
    """The CLASS of a high, as [6] tells it."""
    return [number for number, (least, _) in enumerate(turns) if least <= high][-1]


def colour_of(turns, pairs, name):
    """The COLOUR of a NAME, as [60] tells it."""
    high = dict(pairs)[name]
    return turns[class_at(turns, high)][1][ahead_of(turns, pairs, name, high) % len(turns[class_at(turns, high)][1])]


def ahead_of(turns, pairs, name, high):
    """How many spaces of the CLASS of a high stand ahead of a NAME."""
    names = [other for other, _ in pairs]
    return sum(class_at(turns, other) == class_at(turns, high) for _, other in pairs[:names.index(name)])


class Asks(Refusals):
    """What a test of TURNED and SHIFTS asks."""

    def turned(self, one, other, expected, turns=TURNS):
        before = repr((turns, one, other))
        self.assertEqual(repr(turned(turns, one, other)), repr(expected))
        self.assertEqual(repr((turns, one, other)), before)

    def shifts(self, one, other, *expected, turns=TURNS):
        """The SHIFT of each NAME of both, in the order of the other one."""
        before = repr((turns, one, other))
        told = [(name, shift(turns, one, other, name)) for name, _ in other if name in dict(one)]
        self.assertEqual(repr(told), repr(list(expected)))
        self.assertEqual(repr((turns, one, other)), before)


class Turned(Asks, unittest.TestCase):
    def test_none_where_both_are_the_same(self):
        self.turned(LOW, LOW, ())
        self.turned((), (), ())

    def test_one_put_in(self):
        more = LOW[:1] + (("eve", 1),) + LOW[1:]
        self.turned(LOW, more, ("bob", "cat", "dan"))
        self.turned(more, LOW, ("bob", "cat", "dan"))
        self.turned(LOW, LOW + (("eve", 1),), ())

    def test_one_of_another_class_put_in(self):
        self.turned(LOW, (("eve", 3),) + LOW, ())
        self.turned(LOW, LOW[:2] + (("eve", 9),) + LOW[2:], ())

    def test_a_whole_round_put_in(self):
        self.turned(LOW, (("eve", 1), ("fay", 2)) + LOW, ())

    def test_in_the_order_of_the_other_one(self):
        self.turned(LOW, (LOW[3], LOW[2], LOW[1], LOW[0]), ("dan", "cat", "bob", "ann"))
        self.turned(LOW, (LOW[1], LOW[0], LOW[2], LOW[3]), ("bob", "ann"))

    def test_of_another_class(self):
        self.turned(LOW, (("ann", 3),) + LOW[1:], ("ann", "bob", "cat", "dan"))
        self.turned(LOW, LOW[:3] + (("dan", 7),), ("dan",))

    def test_of_another_class_but_of_the_same_colour(self):
        turns = ((1, ("red", "blue")), (3, ("red",)))
        self.turned(LOW, (("ann", 3),) + LOW[1:], ("bob", "cat", "dan"), turns=turns)
        self.turned((("ann", 1),), (("ann", 3),), (), turns=turns)

    def test_of_another_high_but_of_the_same_class(self):
        self.turned(LOW, (("ann", 2), ("bob", 1), ("cat", 2), ("dan", 1)), ())
        self.turned((("ann", 3),), (("ann", 10 ** 9),), ())

    def test_names_of_one_of_both_alone(self):
        self.turned(LOW, (("eve", 1), ("fay", 1)), ())
        self.turned(LOW, (("eve", 1), ("ann", 1)), ("ann",))
        self.turned(LOW, (), ())
        self.turned((), LOW, ())

    def test_colours_all_alike(self):
        for ring in (("red",), ("red", "red"), ("red", "red", "red")):
            self.turned(LOW, LOW[1:], (), turns=((1, ring),))
            self.turned(LOW, (LOW[3], LOW[0]), (), turns=((1, ring),))

    def test_some_colours_alike(self):
        highs = (("ann", 3), ("bob", 3), ("cat", 3), ("dan", 3))
        # Green, gold, green, green: the third one and the first one of the next round are alike.
        self.turned(highs, highs[1:], ("bob", "cat"))
        self.turned(highs, highs[2:], ("dan",))
        self.turned(highs, highs[3:], ())

    def test_by_names(self):
        self.assertEqual(turned(other=LOW[1:], one=LOW, turns=TURNS), ("bob", "cat", "dan"))


class Shift(Asks, unittest.TestCase):
    def test_nought_where_both_are_the_same(self):
        self.shifts(LOW, LOW, ("ann", 0), ("bob", 0), ("cat", 0), ("dan", 0))

    def test_more_and_fewer_stand_ahead(self):
        more = LOW[:1] + (("eve", 1), ("fay", 2)) + LOW[1:]
        self.shifts(LOW, more, ("ann", 0), ("bob", 2), ("cat", 2), ("dan", 2))
        self.shifts(more, LOW, ("ann", 0), ("bob", -2), ("cat", -2), ("dan", -2))
        self.shifts(LOW, LOW[::-1], ("dan", -3), ("cat", -1), ("bob", 1), ("ann", 3))

    def test_of_another_class_ahead(self):
        self.shifts(LOW, (("eve", 3),) + LOW, ("ann", 0), ("bob", 0), ("cat", 0), ("dan", 0))
        self.shifts(LOW, (("ann", 3),) + LOW[1:], ("ann", 0), ("bob", -1), ("cat", -1), ("dan", -1))

    def test_counted_of_the_newer_class_in_both(self):
        one = (("ann", 1), ("bob", 3), ("cat", 3), ("dan", 1))
        self.shifts(one, one[:3] + (("dan", 3),), ("ann", 0), ("bob", 0), ("cat", 0), ("dan", 0))
        self.shifts(one, (("eve", 5),) + one[:3] + (("dan", 3),), ("ann", 0), ("bob", 1), ("cat", 1), ("dan", 1))
        self.shifts(one, (("bob", 3), ("dan", 3)), ("bob", 0), ("dan", -1))
        self.shifts(one, (("bob", 3), ("dan", 1)), ("bob", 0), ("dan", -1))
        self.shifts(one, (("dan", 3),), ("dan", -2))
        self.shifts(one, (("dan", 1),), ("dan", -1))

    def test_a_name_that_stands_not_in_both(self):
        other = LOW[1:] + (("eve", 1),)
        for name in ("ann", "eve", "zoe"):
            self.check_refused(NoName, [name], shift, TURNS, LOW, other, name)
            self.check_refused(NoName, [name], shift, TURNS, other, LOW, name)
            self.check_refused(NoName, [name], shift, TURNS, (), (), name)
            self.check_refused(NoName, [name], shift, TURNS, LOW, (), name)
            self.check_refused(NoName, [name], shift, TURNS, (), other, name)

    def test_as_large_as_may_be(self):
        one = tuple((name, 10 ** 9) for name in "abcdefghijklmnop")
        self.assertEqual(shift(TURNS, one, one[::-1], "a"), 15)
        self.assertEqual(shift(TURNS, one[::-1], one, "a"), -15)

    def test_by_names(self):
        self.assertEqual(shift(name="bob", other=LOW[1:], one=LOW, turns=TURNS), -1)


class Small(Asks, unittest.TestCase):
    TURNS = (((1, ("red", "blue")), (3, ("green", "gold", "pink"))), ((1, ("red", "red", "blue")), (2, ("red",))),
             ((1, ("red", "blue", "gold")),))

    def books(self, many, seed):
        chance = Random(seed)
        for _ in range(many):
            one, other = (tuple((name, chance.randint(1, 4)) for name in chance.sample("abcdef", chance.randint(0, 6)))
                          for _ in range(2))
            yield chance.choice(self.TURNS), one, other

    def test_as_the_words_tell_it(self):
        for turns, one, other in self.books(600, 65):
            both = [name for name, _ in other if name in dict(one)]
            self.turned(one, other, tuple(name for name in both if colour_of(turns, one, name)
                                          != colour_of(turns, other, name)), turns=turns)
            told = []
            for name in both:
                high = dict(other)[name]
                told.append((name, ahead_of(turns, other, name, high) - ahead_of(turns, one, name, high)))
            self.shifts(one, other, *told, turns=turns)

    def test_turned_by_what_is_no_whole_number_of_rounds(self):
        found = set()
        for turns, one, other in self.books(600, 66):
            told = turned(turns, one, other)
            for name in [name for name, _ in other if name in dict(one)]:
                number = class_at(turns, dict(other)[name])
                if class_at(turns, dict(one)[name]) == number:
                    ring = turns[number][1]
                    whole = shift(turns, one, other, name) % len(ring) == 0
                    found.add((whole, name in told, len(set(ring)) == len(ring)))
        # Of colours that are unlike just those are TURNED; of others perhaps fewer.
        self.assertEqual(found, {(True, False, True), (False, True, True), (True, False, False), (False, True, False),
                                 (False, False, False)})

    def test_one_put_in_or_taken_out(self):
        for turns, one, _ in self.books(200, 67):
            for place, high in product(range(len(one) + 1), (1, 2, 3, 4)):
                more = one[:place] + (("zoe", high),) + one[place:]
                for names in (turned(turns, one, more), turned(turns, more, one)):
                    # None ahead is TURNED, nor one behind of another CLASS.
                    behind = [name for name, other in one[place:] if class_at(turns, other) == class_at(turns, high)]
                    self.assertLessEqual(set(names), set(behind))

    def test_the_same_again(self):
        for turns, one, _ in self.books(200, 68):
            self.turned(one, one, (), turns=turns)
            self.shifts(one, one, *[(name, 0) for name, _ in one], turns=turns)
