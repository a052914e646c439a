"""TRIES and their SLIPS; the fewest, with a TRY and PRICES, or a BARRIER of each LETTER [31], [32], [33]."""

import unittest
from random import Random

from leftspaces.barrierchecker import lets_barrier
from leftspaces.errors import NoReading
from leftspaces.reading import can
from leftspaces.readingchecker import lets_reading
from leftspaces.slipchecker import lets_slips
from leftspaces.slips import fewest_slips, slips_of
from tests.readings import LETTERS, is_barrier, is_reading
from tests.refusals import Refusals
from tests.slipping import all_tries, count_slips, least_of_prices, loosened, place_off, small_tries, sorts_in

LEXICON = (("ann", ("name",)), ("inn", ("house",)), ("saw", ("act",)), ("was", ("act",)))
FOLLOW = (("house", "act"), ("name", "act"))
ANN_WAS = (("ann", "name"), ("was", "act"))


class SlipsOf(unittest.TestCase):
    def told(self, guide, patterns, tried, expected):
        row = (guide, patterns)
        before = repr((row, tried))
        self.assertEqual(repr(slips_of(row, tried)), repr(expected))
        self.assertEqual(repr((row, tried)), before)

    def test_none(self):
        self.told(None, ("nn", "was"), ANN_WAS, 0)
        self.told(("a", "e"), ("n?", "??s"), ANN_WAS, 0)

    def test_signs_that_are_others(self):
        self.told(None, ("nn", "wes"), ANN_WAS, 1)
        self.told(None, ("nm", "wes"), ANN_WAS, 2)
        self.told(None, ("xx", "xxx"), ANN_WAS, 5)
        self.told(None, ("nn", "saw"), ANN_WAS, 2)

    def test_a_sign_that_can_not_be_read_is_none(self):
        self.told(None, ("??", "???"), ANN_WAS, 0)
        self.told(None, ("?x", "x?x"), ANN_WAS, 3)

    def test_the_first_word_is_looked_at_from_its_second_letter_on(self):
        self.told(None, ("nn",), (("inn", "house"),), 0)
        self.told(None, ("ni",), (("inn", "house"),), 1)

    def test_a_guide_that_lacks_the_first_letter(self):
        self.told(("i",), ("nn", "was"), ANN_WAS, 1)
        self.told((), ("nn", "was"), ANN_WAS, 1)
        self.told(("b", "z"), ("nx", "xas"), ANN_WAS, 3)
        self.told(("a",), ("nx", "xas"), ANN_WAS, 2)

    def test_a_lost_mark(self):
        self.told(None, ("nx", "was"), (("inn", "house"), ("was", "act")), 1)

    def test_only_the_first_words_letter_is_guided(self):
        self.told(("a",), ("nn", "was"), ANN_WAS, 0)
        self.told(("w",), ("nn", "was"), ANN_WAS, 1)

    def test_by_names(self):
        self.assertEqual(slips_of(tried=ANN_WAS, row=(None, ("nn", "wes"))), 1)

    def test_small_ones(self):
        most = set()
        for lexicon, follow, row in small_tries(300, 310):
            for tried in all_tries(lexicon, follow, row)[:20]:
                slips = slips_of(row, tried)
                self.assertEqual(slips, count_slips(row, tried))
                # A TRY without SLIPS is a READING, and no other one is.
                self.assertEqual(slips == 0, is_reading(lexicon, follow, row, tried))
                most.add(slips)
        self.assertTrue({0, 1, 2, 3} <= most)


class Answers(Refusals):
    """What a test of the fewest SLIPS asks."""

    def check(self, lexicon, follow, row):
        """Told is a paper of the fewest, and it is let by; the number, and the TRY."""
        before = repr((lexicon, follow, row))
        told = fewest_slips(lexicon, follow, row)
        self.assertEqual(repr((lexicon, follow, row)), before)
        self.assertEqual([part.__class__ for part in (told, *told)], [tuple, int, tuple, tuple])
        number, tried, prices = told
        self.assertTrue(is_reading(lexicon, follow, loosened(row), tried), (lexicon, follow, row, tried))
        self.assertEqual(count_slips(row, tried), number)
        self.assertEqual([len(part) for part in prices], [len(sorts_in(lexicon))] * len(row[1]))
        self.assertTrue(all(price.__class__ is int for part in prices for price in part))
        self.assertIsNone(place_off(lexicon, follow, row, prices))
        self.assertEqual(least_of_prices(lexicon, row, prices), number)
        self.assertIs(lets_slips(lexicon, follow, row, told), True)
        return number, tried

    def lacks(self, lexicon, follow, row):
        """Refused is a ROW that has no TRY, with a BARRIER of each LETTER for the LOOSE ROW."""
        before = repr((lexicon, follow, row))
        with self.assertRaises(NoReading) as held:
            fewest_slips(lexicon, follow, row)
        self.assertEqual(repr((lexicon, follow, row)), before)
        self.assertEqual(list(vars(held.exception)), ["paper"])
        paper = held.exception.paper
        self.assertIs(paper.__class__, tuple)
        for letter in LETTERS:
            self.assertTrue(is_barrier(lexicon, follow, loosened(row), letter, paper))
            self.assertIs(lets_barrier(lexicon, follow, loosened(row), letter, paper), True)
        return paper


class Fewest(Answers, unittest.TestCase):
    def test_none_at_all(self):
        self.assertEqual(self.check(LEXICON, FOLLOW, (("a",), ("nn", "was"))), (0, ANN_WAS))
        self.assertEqual(self.check(LEXICON, FOLLOW, (("i",), ("nn", "sa?")))[0], 0)

    def test_one_sign_is_wrong(self):
        self.assertEqual(self.check(LEXICON, FOLLOW, (("a",), ("nn", "wes"))), (1, ANN_WAS))
        self.assertEqual(self.check(LEXICON, FOLLOW, (("a",), ("mn", "was"))), (1, ANN_WAS))

    def test_the_fewer_of_two(self):
        # "saw" is three signs off "was", but two off "sas"; "was" is one off it.
        self.assertEqual(self.check(LEXICON, FOLLOW, (None, ("nn", "sas")))[0], 1)
        self.assertEqual(self.check(LEXICON, FOLLOW, (None, ("nn", "sa?")))[1][1], ("saw", "act"))

    def test_a_lost_mark(self):
        self.assertEqual(self.check(LEXICON, FOLLOW, (None, ("nn",)))[0], 0)

    def test_a_guide_that_lacks_the_first_letter(self):
        self.assertEqual(self.check(LEXICON, FOLLOW, (("z",), ("nn", "was")))[0], 1)
        self.assertEqual(self.check(LEXICON, FOLLOW, ((), ("nn", "was")))[0], 1)
        self.assertEqual(self.check(LEXICON, FOLLOW, (("z",), ("xx", "xxx")))[0], 6)
        self.assertEqual(self.check(LEXICON, FOLLOW, (("i",), ("nn", "was"))), (0, (("inn", "house"), ("was", "act"))))

    def test_one_pattern_alone(self):
        self.assertEqual(self.check(LEXICON, (), (("w",), ("aw",)))[0], 1)
        self.assertEqual(self.check(LEXICON, (), (("w",), ("ax",))), (1, (("was", "act"),)))
        self.assertEqual(self.check(LEXICON, (), (("s",), ("aw",))), (0, (("saw", "act"),)))

    def test_words_that_fit_but_by_sorts_of_which_none_goes_on(self):
        lexicon = (("ab", ("p",)), ("cd", ("q",)), ("ef", ("r",)))
        # "ab" would have no SLIP, but p goes nowhere; so it is "cd", then "ef".
        self.assertEqual(self.check(lexicon, (("q", "r"),), (("a",), ("b", "ef"))), (2, (("cd", "q"), ("ef", "r"))))
        # p goes on to q, of which no WORD is as long as the last PATTERN.
        lexicon = (("ab", ("p",)), ("cd", ("r",)), ("ef", ("q",)), ("efg", ("r",)))
        self.assertEqual(self.check(lexicon, (("p", "q"), ("r", "r")), (None, ("b", "efg"))),
                         (1, (("cd", "r"), ("efg", "r"))))

    def test_a_word_of_two_sorts(self):
        lexicon = (("ab", ("p", "q")), ("cd", ("q", "r")))
        self.assertEqual(self.check(lexicon, (("p", "r"),), (None, ("b", "cd"))), (0, (("ab", "p"), ("cd", "r"))))
        self.assertEqual(self.check(lexicon, (("q", "q"),), (None, ("b", "ab")))[0], 0)

    def test_by_names(self):
        self.assertEqual(fewest_slips(row=(("a",), ("nn", "was")), follow=FOLLOW, lexicon=LEXICON)[:2], (0, ANN_WAS))


class NoTry(Answers, unittest.TestCase):
    def test_no_word_of_the_length(self):
        self.assertEqual(self.lacks(LEXICON, FOLLOW, (None, ("nnn", "was"))), ((), ()))
        self.assertEqual(self.lacks(LEXICON, FOLLOW, (None, ("nn", "wa")))[-1], ())
        self.lacks(LEXICON, FOLLOW, (None, ("n",)))

    def test_a_first_pattern_of_eight_signs(self):
        lexicon = (("abcdefgh", ("p",)),)
        self.lacks(lexicon, (("p", "p"),), (None, ("abcdefgh",)))
        self.assertEqual(self.check(lexicon, (), (None, ("bcdefgh",)))[0], 0)
        self.assertEqual(self.check(lexicon, (("p", "p"),), (None, ("bcdefgh", "abcdefgx")))[0], 1)

    def test_a_void_lexicon_and_void_follow(self):
        self.assertEqual(self.lacks((), (), (None, ("nn",))), ((),))
        self.assertEqual(self.lacks((), FOLLOW, (("a",), ("nn", "was"))), ((), ()))
        self.lacks(LEXICON, (), (None, ("nn", "was")))

    def test_sorts_that_lead_nowhere(self):
        self.lacks(LEXICON, (("act", "pet"), ("pet", "act")), (None, ("nn", "was")))
        self.lacks(LEXICON, FOLLOW, (None, ("nn", "was", "was")))

    def test_whatever_the_guide_and_the_signs(self):
        for guide in (None, (), ("a",)):
            self.lacks(LEXICON, FOLLOW, (guide, ("??", "??")))
            self.assertEqual(self.check(LEXICON, FOLLOW, (guide, ("xx", "xxx")))[0], 6 if guide == () else 5)


class Small(Answers, unittest.TestCase):
    def test_the_fewest_of_all_tries(self):
        numbers, lacking = set(), 0
        for lexicon, follow, row in small_tries(1500, 330):
            tries = all_tries(lexicon, follow, row)
            if not tries:
                self.lacks(lexicon, follow, row)
                lacking += 1
                continue
            number, _ = self.check(lexicon, follow, row)
            self.assertEqual(number, min(count_slips(row, tried) for tried in tries), (lexicon, follow, row))
            # There is one without SLIPS just where there is a READING.
            self.assertEqual(number == 0, can(lexicon, follow, row) != ())
            numbers.add(number)
        self.assertTrue({0, 1, 2} <= numbers)
        self.assertGreater(lacking, 100)


class Large(Answers, unittest.TestCase):
    def test_as_large_as_may_be(self):
        chance = Random(33)
        sorts = ("p", "q", "r", "s", "t", "u")
        for _ in range(5):
            words = sorted({"".join(chance.choices("abcde", k=chance.choice((7, 8)))) for _ in range(60)})
            lexicon = tuple((word, tuple(sorted(chance.sample(sorts, 4)))) for word in words)
            follow = tuple((one, other) for one in sorts for other in sorts)
            row = (("a",), tuple("".join(chance.choices("abcde?", k=7)) for _ in range(8)))
            number, tried = self.check(lexicon, follow, row)
            self.assertIs(lets_reading(lexicon, follow, loosened(row), tried), True)
            # All SORTS follow one another, so each place has its own fewest.
            own = [min(count_slips((row[0] if k == 0 else None, (pattern,) if k == 0 else ("?", pattern)),
                                   ((word, ""),) if k == 0 else (("xx", ""), (word, "")))
                       for word in words if len(word) == len(pattern) + (k == 0)) for k, pattern in enumerate(row[1])]
            self.assertEqual(number, sum(own))
