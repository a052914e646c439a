"""A checker of the fewest SLIPS [32], [34]."""

import unittest
from random import Random

from leftspaces.errors import NoPaper, NoReading
from leftspaces.slipchecker import lets_slips
from leftspaces.slips import fewest_slips
from tests.refusals import Refusals
from tests.slipping import all_tries, count_slips, small_tries, sorts_in, why_no_slips
from tests.things import ODD, SIXTY, as_lists, cut_or_longer, deep, swapped

LEXICON = (("ann", ("name",)), ("inn", ("house",)), ("saw", ("act", "tool")), ("was", ("act",)), ("zinc", ("metal",)))
FOLLOW = (("house", "act"), ("name", "act"))
# The GUIDE lacks a and i; "wes" is one sign off "was", three off each other word of three.
ROW = (("z",), ("nn", "wes"))
TRIED = (("ann", "name"), ("was", "act"))
# Of act, house, metal, name, tool: by act and tool no TRY goes on, no WORD of the sort metal is THERE.
PRICES = ((9, 2, 9, 2, 9), (1, 3, 9, 3, 3))
PAPER = (2, TRIED, PRICES)


def with_price(k, sort, price):
    """The PRICES with another one."""
    told = [list(part) for part in PRICES]
    told[k][sort] = price
    return tuple(tuple(part) for part in told)


class Checks(Refusals):
    """What a test of this checker asks."""

    def lets(self, thing, row=ROW, lexicon=LEXICON, follow=FOLLOW):
        before = repr((lexicon, follow, row, thing))
        self.assertIs(lets_slips(lexicon, follow, row, thing), True)
        self.assertEqual(repr((lexicon, follow, row, thing)), before)

    def refuses(self, word, at, thing, row=ROW, lexicon=LEXICON, follow=FOLLOW):
        before = repr((lexicon, follow, row, thing))
        self.check_no_paper(word, at, lets_slips, lexicon, follow, row, thing)
        self.assertEqual(repr((lexicon, follow, row, thing)), before)


class LetBy(Checks, unittest.TestCase):
    def test_a_paper(self):
        self.lets(PAPER)
        self.lets((2, (("inn", "house"), ("was", "act")), PRICES))

    def test_prices_that_may_be_any(self):
        for price in (-SIXTY, -1, 0, 2, 99, SIXTY):
            if price > 1:
                self.lets((2, TRIED, with_price(0, 0, price)))
                self.lets((2, TRIED, with_price(0, 4, price)))
            self.lets((2, TRIED, with_price(0, 2, price)))
            self.lets((2, TRIED, with_price(1, 2, price)))

    def test_lower_prices(self):
        self.lets((2, TRIED, with_price(1, 4, -5)))
        self.lets((2, TRIED, with_price(1, 1, -SIXTY)))
        self.refuses("least", -1, (2, TRIED, with_price(0, 1, 1)))

    def test_no_slips(self):
        prices = ((9, 0, 9, 0, 9), (0, 0, 0, 0, 0))
        self.lets((0, TRIED, prices), row=(("a",), ("nn", "was")))
        self.lets((0, TRIED, ((9, 0, 9, 0, 9), (0, 2, 9, 2, 2))), row=(("a",), ("nn", "was")))

    def test_by_names(self):
        self.assertIs(lets_slips(thing=PAPER, row=ROW, follow=FOLLOW, lexicon=LEXICON), True)


class Shape(Checks, unittest.TestCase):
    def test_no_tuple_of_three(self):
        for thing in ODD + (0, SIXTY, list(PAPER), as_lists(PAPER), deep(PAPER, 20, list), TRIED, PRICES):
            self.refuses("shape", -1, thing)
        for thing in cut_or_longer(PAPER, ()):
            self.refuses("shape", -1, thing)

    def test_no_number(self):
        for odd in ODD + ("2", (2,), [2]):
            self.refuses("shape", -1, (odd, TRIED, PRICES))

    def test_no_tuple_of_pairs_of_texts(self):
        for odd in ODD + (0, list(TRIED), as_lists(TRIED), "ann", (("ann",), ("was", "act"))):
            if odd != ():
                self.refuses("shape", -1, (2, odd, PRICES))
        for odd in (None, 1, True, (), ["act"], ("act",)):
            for tried in list(swapped(TRIED, odd))[1:]:
                self.refuses("shape", -1, (2, tried, PRICES))

    def test_no_tuple_of_tuples_of_numbers(self):
        for odd in ODD + (0, list(PRICES), as_lists(PRICES), (0, 0)):
            if odd not in ((), ((),), ((1, 2), (3,))):
                self.refuses("shape", -1, (2, TRIED, odd))
        for odd in (None, True, False, "1", [1], (1,)):
            for prices in list(swapped(PRICES, odd))[2:]:
                if prices[0] != (1,) and prices[1] != (1,):
                    self.refuses("shape", -1, (2, TRIED, prices))


class Tries(Checks, unittest.TestCase):
    def test_not_as_many_as_the_patterns(self):
        for tried in ((), TRIED[:1], TRIED + TRIED[1:]):
            self.refuses("many", -1, (2, tried, PRICES))

    def test_no_word_there(self):
        for word in ("", "an", "anna", "was ", "ANN", "xxx", "???", "nn"):
            self.refuses("word", 0, (2, ((word, "name"), TRIED[1]), PRICES))
            self.refuses("word", 1, (2, (TRIED[0], (word, "act")), PRICES))

    def test_letters_may_be_others(self):
        row = (("z",), ("xx", "xxx"))
        self.lets((6, TRIED, ((99, 6, 99, 6, 99), (3, 3, 3, 3, 3))), row=row)

    def test_none_of_the_words_sorts(self):
        self.refuses("sort", 0, (2, (("ann", "house"), TRIED[1]), PRICES))
        self.refuses("sort", 1, (2, (TRIED[0], ("was", "tool")), PRICES))
        self.refuses("sort", 1, (2, (TRIED[0], ("was", "")), PRICES))

    def test_no_pair_of_follow(self):
        self.refuses("follow", 1, (2, (TRIED[0], ("saw", "tool")), PRICES))
        self.refuses("follow", 1, (2, (("saw", "act"), ("was", "act")), PRICES))
        self.refuses("follow", 1, (2, TRIED, PRICES), follow=(("act", "name"),))

    def test_the_guide_refuses_no_try(self):
        self.lets((2, TRIED, PRICES), row=((), ("nn", "wes")))


class Prices(Checks, unittest.TestCase):
    def test_not_as_many_tuples_as_patterns(self):
        for prices in ((), PRICES[:1], PRICES + PRICES[1:], ((), (), ())):
            self.refuses("prices", -1, (2, TRIED, prices))

    def test_not_as_many_numbers_as_sorts(self):
        for part in ((), (9, 2, 9, 2), (9, 2, 9, 2, 9, 9)):
            self.refuses("prices", 0, (2, TRIED, (part, PRICES[1])))
            self.refuses("prices", 0, (2, TRIED, (part, part)))
            self.refuses("prices", 1, (2, TRIED, (PRICES[0], part)))

    def test_where_they_do_not_hold(self):
        self.refuses("price", 0, (2, TRIED, with_price(0, 1, 3)))
        self.refuses("price", 0, (2, TRIED, with_price(0, 3, 3)))
        self.refuses("price", 0, (2, TRIED, with_price(1, 0, 0)))
        for sort in (1, 3, 4):
            self.refuses("price", 1, (2, TRIED, with_price(1, sort, 4)))
        self.refuses("price", 1, (2, TRIED, with_price(1, 0, 2)))
        self.refuses("price", 1, (2, TRIED, ((9,) * 5, (9,) * 5)))
        self.refuses("price", 0, (2, TRIED, ((9,) * 5, (1, 9, 9, 9, 9))))

    def test_each_sort_behind_holds_them(self):
        # A name may be followed by metal, too: no WORD of it is THERE at place 1, but its PRICE counts.
        follow = FOLLOW + (("name", "metal"),)
        self.lets((2, TRIED, with_price(1, 2, 1)), follow=follow)
        self.refuses("price", 0, (2, TRIED, with_price(1, 2, 0)), follow=follow)
        # A sort that the LEXICON hasn't has no PRICE.
        self.lets((2, TRIED, with_price(1, 2, 0)), follow=FOLLOW + (("name", "pet"),))

    def test_another_number_than_the_slips(self):
        for number in (-1, 0, 1, 3, SIXTY):
            self.refuses("number", -1, (number, TRIED, PRICES))
        self.refuses("number", -1, (2, (("ann", "name"), ("saw", "act")), PRICES))

    def test_not_the_least(self):
        self.refuses("least", -1, (2, TRIED, ((9, 1, 9, 1, 9), (0, 0, 0, 0, 0))))
        self.refuses("least", -1, (4, (("ann", "name"), ("saw", "act")), PRICES))
        self.refuses("least", -1, (2, TRIED, with_price(0, 0, 1)))
        # No WORD of the sort metal is THERE at place 0, so it is none of those that the LEAST is of.
        self.lets((2, TRIED, with_price(0, 2, 1)))


class TwoDue(Checks, unittest.TestCase):
    def test_in_their_order(self):
        bad = (("xxx", "x"), ("was", "x"))
        self.refuses("shape", -1, (True, bad, ((), None)))
        self.refuses("shape", -1, (2, bad, ((), (True,))))
        self.refuses("many", -1, (9, bad + bad, ()))
        self.refuses("word", 0, (9, bad, ()))
        self.refuses("sort", 1, (9, (TRIED[0], bad[1]), ()))
        self.refuses("follow", 1, (9, (TRIED[0], ("saw", "tool")), ()))
        self.refuses("prices", -1, (9, TRIED, ((9,) * 5,)))
        self.refuses("prices", 1, (9, TRIED, ((9,) * 5, ())))
        self.refuses("price", 1, (9, TRIED, ((9,) * 5, (9,) * 5)))
        self.refuses("number", -1, (1, TRIED, ((9, 1, 9, 1, 9), (0,) * 5)))


class Small(Checks, unittest.TestCase):
    def test_papers_otherwise(self):
        chance = Random(34)
        words = set()
        for lexicon, follow, row in small_tries(400, 340):
            try:
                paper = fewest_slips(lexicon, follow, row)
            except NoReading:
                continue
            for thing in self.otherwise(chance, lexicon, follow, row, paper):
                why = why_no_slips(lexicon, follow, row, thing)
                words.add(why and why[0])
                if why is None:
                    self.lets(thing, row, lexicon, follow)
                    self.check_fewest(lexicon, follow, row, thing[0])
                else:
                    self.refuses(*why, thing, row=row, lexicon=lexicon, follow=follow)
        self.assertEqual(words, {None, "many", "word", "sort", "follow", "prices", "price", "number", "least"})

    def otherwise(self, chance, lexicon, follow, row, paper):
        """The paper, and some that are otherwise at one place or at two."""
        number, tried, prices = paper
        yield paper
        for _ in range(6):
            told = [list(part) for part in prices]
            k = chance.randrange(len(told))
            told[k][chance.randrange(len(told[k]))] += chance.choice((-2, -1, 1, 2))
            prices = tuple(tuple(part) for part in told)
            yield number, tried, prices
        yield number + chance.choice((-1, 1)), tried, paper[2]
        yield number, tried, paper[2][:-1]
        yield number, tried[:-1], paper[2]
        yield number, tried, tuple(part + (0,) * (k == 0) for k, part in enumerate(paper[2]))
        sorts = sorts_in(lexicon)
        other = tuple((word, chance.choice(sorts)) for word, _ in tried)
        yield number, other, paper[2]
        yield number, tried[:-1] + ((chance.choice(lexicon)[0], tried[-1][1]),), paper[2]
        for more in all_tries(lexicon, follow, row)[:3]:
            yield number, more, paper[2]
            yield count_slips(row, more), more, paper[2]

    def check_fewest(self, lexicon, follow, row, number):
        """Whoever wrote it, no TRY has fewer SLIPS."""
        self.assertEqual(number, min(count_slips(row, tried) for tried in all_tries(lexicon, follow, row)))


class Told(Checks, unittest.TestCase):
    def test_no_paper_where_there_is_no_try(self):
        for prices in (((0,) * 5,) * 2, ((9,) * 5,) * 2):
            with self.assertRaises(NoPaper):
                lets_slips(LEXICON, (), ROW, (0, TRIED, prices))
