"""A WORLD of CANS and a BILL, or a NO; just one of both [6], [42], [43], [52]."""

import copy
import unittest
from itertools import chain, combinations, product

from leftspaces.worlds import world
from tests.filling import LETTERS, all_worlds, is_no, is_world, large_fillings, small_fillings
from tests.things import SIXTY


class Answers:
    """What a test of a WORLD or a NO asks."""

    def word_of(self, cans, bill):
        """Told is a WORLD, or a NO; the word of it."""
        before = copy.deepcopy((cans, bill))
        told = world(cans, bill)
        self.assertEqual(repr((cans, bill)), repr(before))
        self.assertIs(told.__class__, tuple)
        self.assertEqual(len(told), 2)
        word, paper = told
        self.assertIs(paper.__class__, tuple)
        self.assertIn(word, ("world", "no"))
        if word == "world":
            self.assertTrue(is_world(cans, bill, paper), (cans, bill, paper))
        else:
            self.assertTrue(is_no(cans, bill, paper), (cans, bill, paper))
            self.assertIs(paper[1].__class__, tuple)
        return word

    def has(self, cans, bill):
        self.assertEqual(self.word_of(cans, bill), "world", (cans, bill))

    def lacks(self, cans, bill, *papers):
        self.assertEqual(self.word_of(cans, bill), "no", (cans, bill))
        if papers:
            self.assertIn(world(cans, bill)[1], papers)


class Told(Answers, unittest.TestCase):
    def test_the_only_world(self):
        for cans, bill, expected in (
                ((("a",), ("b",)), (), ("a", "b")),
                ((("a", "b"), ("a",)), (("a", 1), ("b", 1)), ("b", "a")),
                ((("a", "b"), ("b", "c"), ("c",)), (("a", 1), ("b", 1), ("c", 1)), ("a", "b", "c")),
                ((("a", "b"), ("a", "c"), ("b", "c")), (("a", 2), ("b", 0)), ("a", "a", "c")),
                ((("a", "b"), ("a", "b")), (("b", 2),), ("b", "b"))):
            self.assertEqual(world(cans, bill), ("world", expected))

    def test_of_none(self):
        self.assertEqual(world((), ()), ("world", ()))
        self.assertEqual(world(cans=(), bill=()), ("world", ()))

    def test_no_cans(self):
        self.assertEqual(world((), (("a", 0), ("b", 0))), ("world", ()))
        self.lacks((), (("a", 1),), ("few", ("a",)))
        self.lacks((), (("a", 0), ("b", 1)), ("few", ("b",)), ("few", ("a", "b")))

    def test_no_bill(self):
        self.has((("a", "b"), ("b",), LETTERS), ())
        self.lacks((("a", "b"), ()), (), ("crowd", (1,)))

    def test_a_void_can(self):
        for bill in ((), (("a", 1),), (("a", 0), ("b", 9))):
            self.lacks(((),), bill)
        self.lacks(((), ("a",)), (("a", 1),), ("crowd", (0,)))
        self.lacks((("a",), (), ()), (("a", 0),))

    def test_many_nought(self):
        self.has((("a", "b"), ("b", "c")), (("a", 0), ("c", 0)))
        self.has((("a", "b"), ("b", "c")), (("b", 0),))
        self.lacks((("a",),), (("a", 0),), ("crowd", (0,)))
        self.lacks((("a", "b"), ("b",)), (("a", 0), ("b", 1)))
        self.has((("b",),), (("a", 0),))

    def test_a_billed_letter_that_no_can_has(self):
        self.lacks((("a",),), (("z", 1),), ("few", ("z",)))
        self.has((("a",),), (("z", 0),))
        self.lacks((("a", "b"), ("a", "b")), (("a", 1), ("z", 2)), ("few", ("z",)), ("few", ("a", "z")))

    def test_more_billed_than_there_can_be(self):
        self.lacks((("a",), ("a", "b")), (("a", 3),), ("few", ("a",)))
        self.lacks((("a",), ("a", "b"), ("c",)), (("a", 1), ("b", 2)))
        self.lacks((("a", "b"), ("a", "b"), ("c",)), (("a", 2), ("b", 1)), ("few", ("a", "b")))
        self.lacks((("a",),), (("a", SIXTY),), ("few", ("a",)))

    def test_a_crowd(self):
        self.lacks((("a",), ("a",), ("b",)), (("a", 1),), ("crowd", (0, 1)))
        self.lacks((("a", "b"), ("a", "b"), ("a", "b")), (("a", 1), ("b", 1)), ("crowd", (0, 1, 2)))
        self.lacks((("a", "b"), ("a", "c"), ("a", "b"), ("b",)), (("a", 1), ("b", 1)), ("crowd", (0, 2, 3)))

    def test_only_spaces_of_billed_letters_are_a_crowd(self):
        self.has((("a", "z"), ("a", "z"), ("a",)), (("a", 1),))
        self.has((("a", "z"), ("a",), ("a", "z")), (("a", 1),))
        self.has((("a",), ("a", "z"), ("a", "z")), (("a", 1),))

    def test_a_space_that_need_not_have_a_billed_letter_goes_on_to_one(self):
        self.has((("a", "z"), ("a", "b"), ("b",)), (("a", 2), ("b", 1)))
        self.has((("a", "z"), ("b",), ("a", "b")), (("a", 1), ("b", 2)))
        self.has((("a", "b", "z"), ("a",)), (("a", 1), ("b", 1)))

    def test_exchanges_over_many_spaces(self):
        letters = LETTERS[:12]
        cans = tuple(tuple(sorted({letters[k], letters[min(k + 1, 11)]})) for k in range(12))
        bill = tuple((letter, 1) for letter in letters)
        self.has(cans, bill)
        self.has(cans[::-1], bill)
        self.lacks(cans + (("a", "l"),), bill)
        self.has(cans[1:], bill[1:])
        self.lacks(cans[1:], bill, ("few", ("a",)))
        self.has(cans[:11] + (("b", "l"),), tuple((letter, 1 if letter != "a" else 0) for letter in letters[:11]))

    def test_both_why_there_is_none(self):
        self.lacks((("a",), ("a",)), (("a", 1), ("b", 1)))
        self.lacks(((), ("a", "z")), (("b", 1),))

    def test_as_large_as_may_be(self):
        self.has((LETTERS,) * 12, tuple((letter, 0) for letter in LETTERS[:8]))
        self.has((LETTERS,) * 12, tuple((letter, 1) for letter in LETTERS[:8]))
        self.has((LETTERS,) * 12, (("a", 12),) + tuple((letter, 0) for letter in LETTERS[1:8]))
        self.lacks((LETTERS,) * 12, tuple((letter, 99) for letter in LETTERS[:8]))
        self.lacks((LETTERS,) * 12, (("a", 13),))
        self.lacks((LETTERS[:8],) * 12, tuple((letter, 1) for letter in LETTERS[:8]))
        self.has((LETTERS[:8],) * 12, tuple((letter, 1 + k // 4) for k, letter in enumerate(LETTERS[:8])))
        self.lacks((LETTERS[:8],) * 12, tuple((letter, 2) for letter in LETTERS[:8]))

    def test_larger_still(self):
        bill = tuple((letter, 3) for letter in LETTERS)
        self.has((LETTERS,) * 100, bill[1:])
        self.has((LETTERS,) * 78, bill)
        self.lacks((LETTERS,) * 79, bill, ("crowd", tuple(range(79))))
        self.lacks((LETTERS,) * 77, bill, ("few", LETTERS))


class Small(Answers, unittest.TestCase):
    def test_just_one_of_both(self):
        words = set()
        for cans, bill in small_fillings(2000, 43):
            worlds = all_worlds(cans, bill)
            self.assertEqual(self.word_of(cans, bill), "world" if worlds else "no", (cans, bill))
            words.add(world(cans, bill)[0] if worlds else world(cans, bill)[1][0])
        self.assertEqual(words, {"world", "crowd", "few"})

    def test_each_choice_of_two_letters(self):
        tuples = ((), ("a",), ("b",), ("a", "b"))
        for spaces in range(4):
            for cans in product(tuples, repeat=spaces):
                for many in product((None, 0, 1, 2, 3), repeat=2):
                    bill = tuple((letter, count) for letter, count in zip("ab", many) if count is not None)
                    self.assertEqual(self.word_of(cans, bill), "world" if all_worlds(cans, bill) else "no")

    def test_no_paper_where_there_is_a_world(self):
        for cans, bill in small_fillings(300, 44):
            letters = [letter for letter, _ in bill]
            papers = [("crowd", spaces) for spaces in subsets(range(len(cans)))]
            papers += [("few", some) for some in subsets(letters)]
            self.assertEqual(any(is_no(cans, bill, paper) for paper in papers), not all_worlds(cans, bill))


class Large(Answers, unittest.TestCase):
    def test_twelve_cans_and_eight_rows(self):
        words = {"world": 0, "no": 0}
        for cans, bill in large_fillings(1500, 45):
            words[self.word_of(cans, bill)] += 1
        self.assertGreater(min(words.values()), 200)


def subsets(things):
    """Each tuple of some of these things, in their order."""
    things = tuple(things)
    return chain.from_iterable(combinations(things, many) for many in range(len(things) + 1))
