"""A checker of NOs [42]; just one of a WORLD and a NO is let by, and what is told as one is [43], [44], [52]."""

import unittest
from itertools import chain, combinations, product

from leftspaces.canbe import left_by, world_with
from leftspaces.nochecker import lets_no
from leftspaces.worldchecker import lets_world
from leftspaces.worlds import world
from tests.filling import LETTERS, all_worlds, is_no, large_fillings, small_fillings
from tests.refusals import Refusals
from tests.things import ODD, SIXTY, as_lists, cut_or_longer, deep, swapped

CANS = (("a", "b"), ("a",), ("b",), ("a", "c"))
BILL = (("a", 1), ("b", 1))
CROWD = ("crowd", (0, 1, 2))
FEW_BILL = (("a", 3), ("b", 2), ("z", 0))
FEW = ("few", ("a", "b"))


def why_no_crowd(cans, bill, spaces):
    """Why rising numbers are no crowd, or None: the words of [42], each asked of all entries."""
    many = dict(bill)
    whys = [("space", k) for k, space in enumerate(spaces) if space not in range(len(cans))]
    if not whys:
        whys = [("free", k) for k, space in enumerate(spaces) if not set(cans[space]) <= set(many)]
    if not whys:
        letters = {letter for space in spaces for letter in cans[space]}
        whys = [("enough", -1)] * (len(spaces) <= sum(many[letter] for letter in letters))
    return (whys + [None])[0]


def why_no_few(cans, bill, letters):
    """Why rising letters are no few, or None."""
    many = dict(bill)
    whys = [("letter", k) for k, letter in enumerate(letters) if letter not in many]
    if not whys:
        takers = [can for can in cans if set(can) & set(letters)]
        whys = [("enough", -1)] * (sum(many[letter] for letter in letters) <= len(takers))
    return (whys + [None])[0]


def subsets(things):
    """Each tuple of some of these things, in their order."""
    things = tuple(things)
    return chain.from_iterable(combinations(things, many) for many in range(len(things) + 1))


class Checks(Refusals):
    """What a test of this checker asks."""

    def lets(self, cans, bill, thing):
        before = repr((cans, bill, thing))
        self.assertIs(lets_no(cans, bill, thing), True)
        self.assertEqual(repr((cans, bill, thing)), before)

    def refuses(self, word, at, thing, cans=CANS, bill=BILL):
        before = repr((cans, bill, thing))
        self.check_no_paper(word, at, lets_no, cans, bill, thing)
        self.assertEqual(repr((cans, bill, thing)), before)


class Shape(Checks, unittest.TestCase):
    def test_let_by(self):
        self.lets(CANS, BILL, CROWD)
        self.lets(CANS, FEW_BILL, FEW)
        self.assertIs(lets_no(thing=CROWD, bill=BILL, cans=CANS), True)

    def test_no_pair(self):
        for thing in ODD + (0, SIXTY, "crowd", "few", ("crowd",), ("few",), list(CROWD), as_lists(CROWD), as_lists(FEW),
                            ("no", CROWD), deep("few", 30, list)):
            self.refuses("shape", -1, thing)
        for thing in [*cut_or_longer(CROWD, ()), *cut_or_longer(FEW, ())]:
            self.refuses("shape", -1, thing, bill=FEW_BILL)

    def test_another_word(self):
        for word in ("Crowd", "crowds", "", "fe", "world", "no", None, 0, True, ("crowd",), ["few"]):
            self.refuses("shape", -1, (word, ()))
            self.refuses("shape", -1, (word, (0, 1, 2)))
            self.refuses("shape", -1, (word, ("a", "b")), bill=FEW_BILL)

    def test_the_other_ones_entries(self):
        self.refuses("shape", -1, ("crowd", ("a", "b")), bill=FEW_BILL)
        self.refuses("shape", -1, ("few", (0, 1, 2)))

    def test_no_tuple_of_numbers(self):
        for entries in (None, 0, "ab", [0, 1, 2], (0, 1, "2"), (0, True), (False, 1, 2), (0, None), ((0, 1, 2),),
                        (0, [1])):
            self.refuses("shape", -1, ("crowd", entries))
        for odd in ODD:
            for thing in list(swapped(CROWD, odd))[1:]:
                if thing != ("crowd", ()):
                    self.refuses("shape", -1, thing)

    def test_no_rising_tuple_of_numbers(self):
        for entries in ((1, 0, 2), (0, 0, 1, 2), (0, 2, 1), (2, 1, 0), (0, 1, 2, 2), (SIXTY, 0), (0, -1)):
            self.refuses("shape", -1, ("crowd", entries))

    def test_no_rising_tuple_of_letters(self):
        for entries in (None, "ab", ["a", "b"], ("a", "a"), ("b", "a"), ("a", "bc"), ("a", "B"), ("a", 1), ("a", None),
                        (("a",),)):
            self.refuses("shape", -1, ("few", entries), bill=FEW_BILL)


class Crowd(Checks, unittest.TestCase):
    def test_let_by(self):
        self.lets((("a",), ("a",)), (("a", 1),), ("crowd", (0, 1)))
        self.lets((("a",), ("z",), ("a",)), (("a", 1),), ("crowd", (0, 2)))
        self.lets(((),), (), ("crowd", (0,)))
        self.lets((("a",), ()), (("a", 9),), ("crowd", (1,)))
        self.lets((("a", "b"),), (("a", 0), ("b", 0)), ("crowd", (0,)))
        self.lets((("a", "b"), ("b",), ()), (("a", 1), ("b", 1)), ("crowd", (0, 1, 2)))

    def test_no_space(self):
        for at, entries in ((0, (-1, 0, 1)), (0, (4,)), (3, (0, 1, 2, 4)), (1, (0, 4, 5)), (0, (-SIXTY, SIXTY)),
                            (2, (0, 1, SIXTY)), (0, (-4, -3, -2))):
            self.refuses("space", at, ("crowd", entries))
        self.refuses("space", 0, ("crowd", (0,)), cans=(), bill=())

    def test_a_letter_that_is_not_billed(self):
        self.refuses("free", 0, ("crowd", (3,)))
        self.refuses("free", 3, ("crowd", (0, 1, 2, 3)))
        self.refuses("free", 1, ("crowd", (1, 2)), bill=(("a", 0),))
        self.refuses("free", 0, ("crowd", (0, 1, 2)), bill=())

    def test_no_more_than_there_are(self):
        self.refuses("enough", -1, ("crowd", ()))
        self.refuses("enough", -1, ("crowd", ()), cans=(), bill=())
        self.refuses("enough", -1, ("crowd", (0, 1)))
        self.refuses("enough", -1, ("crowd", (0, 1, 2)), bill=(("a", 2), ("b", 1)))
        self.refuses("enough", -1, ("crowd", (1,)))
        self.refuses("enough", -1, ("crowd", (0, 1, 2)), bill=(("a", SIXTY), ("b", 0)))

    def test_each_letters_many_once(self):
        self.lets((("a",), ("a",), ("a",)), (("a", 2),), ("crowd", (0, 1, 2)))
        self.refuses("enough", -1, ("crowd", (0, 1)), cans=(("a",),) * 3, bill=(("a", 2),))

    def test_two_due_at_once(self):
        self.refuses("shape", -1, ("crowd", (4, 3)))
        self.refuses("space", 1, ("crowd", (3, 4)))
        self.refuses("space", 0, ("crowd", (-1, 3)))
        self.refuses("free", 1, ("crowd", (2, 3)), bill=(("a", 99), ("b", 99)))


class Few(Checks, unittest.TestCase):
    def test_let_by(self):
        self.lets((), (("a", 1),), ("few", ("a",)))
        self.lets((("b",),), (("a", 1), ("b", 1)), ("few", ("a",)))
        self.lets((("a", "b"), ("c",)), (("a", 1), ("b", 1)), ("few", ("a", "b")))
        self.lets(CANS, (("a", 4),), ("few", ("a",)))
        self.lets((("a", "z"),), (("a", 1), ("b", 0), ("c", 1)), ("few", ("a", "b", "c")))

    def test_a_letter_that_is_not_billed(self):
        self.refuses("letter", 0, ("few", ("c",)), bill=FEW_BILL)
        self.refuses("letter", 2, ("few", ("a", "b", "c")), bill=FEW_BILL)
        self.refuses("letter", 1, ("few", ("a", "c", "d", "z")), bill=FEW_BILL)
        self.refuses("letter", 0, ("few", ("a",)), bill=())

    def test_no_more_than_spaces_that_can_have_them(self):
        self.refuses("enough", -1, ("few", ()))
        self.refuses("enough", -1, ("few", ()), cans=(), bill=())
        self.refuses("enough", -1, ("few", ("z",)), bill=FEW_BILL)
        self.refuses("enough", -1, ("few", ("a",)), bill=FEW_BILL)
        self.refuses("enough", -1, ("few", ("a", "b")))
        self.refuses("enough", -1, ("few", ("a",)), cans=((),), bill=(("a", 0),))

    def test_a_space_that_can_have_several_counts_once(self):
        self.lets((("a", "b"),), (("a", 1), ("b", 1)), ("few", ("a", "b")))
        self.refuses("enough", -1, ("few", ("a", "b")), cans=(("a", "b"), ("a", "b")), bill=(("a", 1), ("b", 1)))

    def test_two_due_at_once(self):
        self.refuses("shape", -1, ("few", ("c", "a")), bill=FEW_BILL)
        self.refuses("letter", 1, ("few", ("a", "d")), bill=(("a", 0),))


class Small(Checks, unittest.TestCase):
    def test_each_crowd_and_each_few(self):
        words = set()
        for cans, bill in small_fillings(250, 420):
            for entries in subsets([-1, *range(len(cans) + 1)]):
                words.add(self.check(cans, bill, ("crowd", entries), why_no_crowd(cans, bill, entries)))
            for entries in subsets("abcdz"):
                words.add(self.check(cans, bill, ("few", entries), why_no_few(cans, bill, entries)))
        self.assertEqual(words, {None, "space", "free", "letter", "enough"})

    def check(self, cans, bill, paper, why):
        self.assertEqual(why is None, is_no(cans, bill, paper))
        if why is not None:
            self.refuses(*why, paper, cans=cans, bill=bill)
            return why[0]
        self.lets(cans, bill, paper)
        # Whoever wrote it, there is no WORLD.
        self.assertEqual(all_worlds(cans, bill), [])
        return None


class Told(Checks, unittest.TestCase):
    def test_just_one_of_both_is_let_by(self):
        words = {"crowd": 0, "few": 0, "world": 0}
        for cans, bill in [*small_fillings(600, 421), *large_fillings(200, 422)]:
            word, paper = world(cans, bill)
            if word == "world":
                self.assertIs(lets_world(cans, bill, paper), True)
                self.refuses("shape", -1, paper, cans=cans, bill=bill)
                words["world"] += 1
            else:
                self.lets(cans, bill, paper)
                words[paper[0]] += 1
        self.assertGreater(min(words.values()), 30)

    def test_each_no_with_a_letter_is_let_by(self):
        for cans, bill in [*small_fillings(150, 423), *large_fillings(10, 424)]:
            for space, letter in product(range(len(cans)), LETTERS[:9]):
                word, paper = world_with(cans, bill, space, letter)
                if word == "no":
                    self.lets(*left_by(cans, bill, space, letter), paper)

    def test_as_large_as_may_be(self):
        bill = tuple((letter, 1) for letter in LETTERS[:8])
        self.lets((LETTERS[:8],) * 12, bill, ("crowd", tuple(range(12))))
        self.lets((LETTERS,) * 12, tuple((letter, 99) for letter in LETTERS[:8]), ("few", LETTERS[:8]))
        self.refuses("space", 12, ("crowd", tuple(range(4000))), cans=(LETTERS,) * 12, bill=bill)
        self.refuses("letter", 8, ("few", LETTERS), cans=(LETTERS,) * 12, bill=bill)
