"""What is left to do behind a MOMENT, by the WALK [7], [72], [75] to [78]."""

import copy
import unittest
from itertools import product
from random import Random

from leftspaces.errors import NoName
from leftspaces.rolls import in_order, is_roll, up_to
from leftspaces.rows import is_row
from leftspaces.states import filled, row_of, stale, sure, unfilled, what_is_left, wrong
from tests.filling import is_no, is_world
from tests.refusals import Refusals
from tests.walks import END, NAMES, TURNS, Stands, small_walks

ANN = ("ann", 2, 4, ("re", "we"))
BOB = ("bob", 1, 2, ("e", "we"))
CAT = ("cat", 3, 1, ("e",))
DAN = ("dan", 1, 1, ("be",))
LEXICON = (("are", ("p",)), ("be", ("q",)), ("he", ("p",)), ("me", ("q",)), ("we", ("q",)))
# ann can be a, bob h, as "we" stands behind them; cat b, h, m, w.
BASE = ((9, 5, (ANN, BOB, CAT)), LEXICON, (("p", "q"),), TURNS)


class Asks(Refusals):
    """What a test of a WALK asks."""

    def check_pages(self, deed, expected, *pages, base=BASE, moment=END):
        """What is told behind such PAGES, handed in in any order."""
        roll = in_order(pages)
        before = copy.deepcopy((base, roll))
        told = deed(base, roll, moment)
        self.assertEqual(repr(told), repr(expected))
        self.assertEqual(repr((base, roll)), repr(before))
        # What is told of a ROLL and a MOMENT is the same of the ROLL up to it [71].
        self.assertEqual(repr(deed(base, up_to(roll, moment), moment)), repr(expected))

    def row(self, name, expected, *pages, base=BASE, moment=END):
        self.check_pages(lambda *asked: row_of(*asked, name), expected, *pages, base=base, moment=moment)
        self.assertIs(is_row(row_of(base, in_order(pages), moment, name)), True)

    def lacks(self, name, *pages, base=BASE, moment=END):
        self.check_refused(NoName, [name], row_of, base, in_order(pages), moment, name)


class RowOf(Asks, unittest.TestCase):
    def test_the_words_and_no_mark(self):
        self.row("ann", (None, ("re", "we")))
        self.row("cat", (None, ("e",)))

    def test_the_first_eight_words(self):
        words = ("e", "be", "he", "me", "we", "are", "be", "he", "me", "we")
        for many in range(1, 11):
            base = ((9, 5, (("ann", 1, 1, words[:many]),)),) + BASE[1:]
            self.row("ann", (None, words[:min(8, many)]), base=base)

    def test_a_mark(self):
        self.row("bob", (("b", "h"), BOB[3]), (1, 0, "guide", "bob", ("b", "h")))
        self.row("ann", (None, ANN[3]), (1, 0, "guide", "bob", ("b", "h")))

    def test_the_last_mark_told(self):
        pages = [(1, 0, "guide", "bob", ("b",)), (2, 5, "guide", "bob", ("h",)), (3, 0, "guide", "bob", ())]
        for moment, guide in (((0, 999), None), ((1, 0), ("b",)), ((2, 4), ("b",)), ((2, 5), ("h",)),
                              ((2, 999), ("h",)),
                              ((3, 0), None), (END, None)):
            self.row("bob", (guide, BOB[3]), *pages, moment=moment)

    def test_a_lost_mark_is_none(self):
        self.row("bob", (None, BOB[3]), (1, 0, "guide", "bob", ()))
        self.row("bob", (("z",), BOB[3]), (1, 0, "guide", "bob", ()), (1, 1, "guide", "bob", ("z",)))

    def test_marks_of_one_moment_as_they_stand(self):
        self.row("bob", (("b",), BOB[3]), (1, 0, "guide", "bob", ("b",)), (1, 0, "guide", "bob", ("a",)))
        self.row("bob", (("b",), BOB[3]), (1, 0, "guide", "bob", ()), (1, 0, "guide", "bob", ("b",)))

    def test_no_section_of_the_name(self):
        self.lacks("zoe")
        self.lacks("dan")
        self.lacks("ann", base=((9, 5, ()),) + BASE[1:])
        self.lacks("ann", (1, 0, "out", "ann"))
        self.lacks("dan", (1, 0, "put", DAN, ""), moment=(0, 999))

    def test_a_section_put_in(self):
        self.row("dan", (None, ("be",)), (1, 0, "put", DAN, ""))
        self.row("dan", (None, ("be",)), (1, 0, "put", DAN, "bob"), base=BASE)

    def test_out_and_in_again(self):
        again = ("ann", 1, 1, ("e",))
        pages = [(1, 0, "guide", "ann", ("a",)), (2, 0, "out", "ann"), (3, 0, "put", again, "")]
        self.row("ann", (("a",), ANN[3]), *pages, moment=(1, 999))
        self.lacks("ann", *pages, moment=(2, 0))
        self.row("ann", (None, ("e",)), *pages)

    def test_grown_the_mark_stays(self):
        self.row("ann", (("a",), ANN[3]), (1, 0, "guide", "ann", ("a",)), (1, 1, "grow", "ann", 4, 4))

    def test_by_names(self):
        self.assertEqual(row_of(base=BASE, roll=(), moment=END, name="ann"), (None, ANN[3]))


class Unfilled(Asks, unittest.TestCase):
    def test_all_at_first(self):
        self.check_pages(unfilled, ("ann", "bob", "cat"))
        self.check_pages(unfilled, (), base=((9, 5, ()),) + BASE[1:])

    def test_painted_and_scraped(self):
        pages = [(1, 0, "paint", "bob", "b", "red"), (2, 0, "paint", "ann", "a", "red"), (3, 0, "scrape", "bob")]
        for moment, expected in (((0, 0), ("ann", "bob", "cat")), ((1, 0), ("ann", "cat")), ((2, 0), ("cat",)),
                                 ((3, 0), ("bob", "cat"))):
            self.check_pages(unfilled, expected, *pages, moment=moment)

    def test_in_the_order_of_the_book(self):
        self.check_pages(unfilled, ("ann", "dan", "bob", "cat"), (1, 0, "put", DAN, "bob"))
        self.check_pages(unfilled, ("ann", "bob", "cat", "dan"), (1, 0, "put", DAN, ""))
        self.check_pages(unfilled, ("dan", "bob", "cat"), (1, 0, "put", DAN, "ann"), (1, 1, "out", "ann"))

    def test_out_and_in_again(self):
        pages = [(1, 0, "paint", "ann", "a", "red"), (2, 0, "out", "ann"), (3, 0, "put", ANN, "")]
        self.check_pages(unfilled, ("bob", "cat"), *pages, moment=(1, 0))
        self.check_pages(unfilled, ("bob", "cat"), *pages, moment=(2, 0))
        self.check_pages(unfilled, ("bob", "cat", "ann"), *pages)

    def test_grown_the_letter_stays(self):
        self.check_pages(unfilled, ("bob", "cat"), (1, 0, "paint", "ann", "a", "red"), (1, 1, "grow", "ann", 1, 1))

    def test_what_is_painted_need_be_no_letter_of_the_mark(self):
        self.check_pages(unfilled, ("bob", "cat"), (1, 0, "guide", "ann", ("b",)), (1, 0, "paint", "ann", "z", "pink"))

    def test_kinds_of_one_moment_in_their_order(self):
        self.check_pages(unfilled, ("bob", "cat", "dan"), (1, 0, "paint", "ann", "a", "red"), (1, 0, "put", DAN, ""))
        self.check_pages(unfilled, ("ann", "bob", "cat"), (1, 0, "out", "dan"), (1, 0, "put", DAN, ""))
        self.check_pages(unfilled, ("bob", "cat"), (1, 0, "paint", "ann", "a", "red"), (1, 0, "scrape", "ann"))

    def test_by_names(self):
        self.assertEqual(unfilled(moment=END, roll=(), base=BASE), ("ann", "bob", "cat"))


class Idle(Asks, unittest.TestCase):
    """Nothing comes of a PAGE that is IDLE, whatever its word."""

    def check_idle(self, idle, *pages, moment=END):
        with_it, without_it = in_order([*pages, idle]), in_order(pages)
        for deed in (unfilled, sure, wrong, stale, what_is_left):
            self.assertEqual(deed(BASE, with_it, moment), deed(BASE, without_it, moment), deed)
        self.assertEqual([pair[0][2:] for pair in Stands(BASE, with_it, moment).idle], [idle[2:]])

    def test_twice(self):
        self.check_idle((1, 0, "put", ("ann", 1, 1, ("e",)), ""))
        self.check_idle((2, 0, "put", DAN, "ann"), (1, 0, "put", DAN, ""))
        self.check_idle((1, 0, "put", ("dan", 1, 1, ("we",)), ""), (1, 0, "put", DAN, ""))

    def test_ahead(self):
        self.check_idle((1, 0, "put", DAN, "zoe"))
        self.check_idle((1, 0, "put", DAN, "dan"))
        self.check_idle((3, 0, "put", DAN, "ann"), (2, 0, "out", "ann"))

    def test_high(self):
        self.check_idle((1, 0, "put", ("dan", 6, 1, ("be",)), ""))
        self.check_idle((1, 0, "grow", "ann", 6, 1))
        self.assertEqual(unfilled(BASE, ((1, 0, "put", ("dan", 5, 1, ("be",)), ""),), END)[-1], "dan")

    def test_long(self):
        base = ((6, 5, ()),) + BASE[1:]
        for size, names in ((6, ("dan",)), (7, ())):
            roll = ((1, 0, "put", ("dan", 1, 1, ("e", "abcdefgh"[:size])), ""),)
            self.assertEqual(unfilled(base, roll, END), names)

    def test_name(self):
        for page in (("out", "zoe"), ("grow", "zoe", 1, 1), ("guide", "zoe", ("a",)), ("scrape", "zoe"),
                     ("paint", "zoe", "a", "red")):
            self.check_idle((1, 0) + page)
            self.check_idle((1, 0) + page, (2, 0, "put", ("zoe", 1, 1, ("re",)), ""))

    def test_full(self):
        self.check_idle((2, 0, "paint", "ann", "b", "blue"), (1, 0, "paint", "ann", "a", "red"))
        self.check_idle((1, 0, "paint", "ann", "b", "blue"), (1, 0, "paint", "ann", "a", "red"))

    def test_void(self):
        self.check_idle((1, 0, "scrape", "ann"))
        self.check_idle((1, 0, "scrape", "ann"), (1, 0, "paint", "ann", "a", "red"))
        self.check_idle((3, 0, "scrape", "ann"), (1, 0, "paint", "ann", "a", "red"), (2, 0, "scrape", "ann"))

    def test_what_a_later_page_makes_of_it(self):
        pages = [(1, 0, "paint", "dan", "a", "red"), (2, 0, "put", DAN, ""), (2, 1, "paint", "dan", "b", "blue")]
        self.assertEqual(unfilled(BASE, in_order(pages), END), ("ann", "bob", "cat"))
        self.assertEqual(unfilled(BASE, in_order(pages[:2]), END), ("ann", "bob", "cat", "dan"))


class Sure(Asks, unittest.TestCase):
    def test_the_only_letter(self):
        self.check_pages(sure, (("ann", "a"), ("bob", "h")))

    def test_not_what_is_painted(self):
        self.check_pages(sure, (("bob", "h"),), (1, 0, "paint", "ann", "a", "red"))
        self.check_pages(sure, (("bob", "h"),), (1, 0, "paint", "ann", "z", "red"))

    def test_by_the_mark(self):
        self.check_pages(sure, (("ann", "a"), ("bob", "h"), ("cat", "m")), (1, 0, "guide", "cat", ("a", "m", "z")))
        self.check_pages(sure, (("ann", "a"),), (1, 0, "guide", "bob", ("b", "m")))
        self.check_pages(sure, (("ann", "a"), ("bob", "h")), (1, 0, "guide", "cat", ("b", "m")))

    def test_no_letter_at_all(self):
        self.check_pages(sure, (), base=((9, 5, (ANN, BOB)), (), (), TURNS))

    def test_of_no_sections(self):
        self.check_pages(sure, (), base=((9, 5, ()),) + BASE[1:])

    def test_by_eight_words_alone(self):
        for many, expected in ((7, ()), (8, (("ann", "h"),)), (9, (("ann", "h"),))):
            section = ("ann", 1, 1, ("e",) + ("he",) * (many - 1) + ("xx",))
            base = ((9, 5, (section,)), (("he", ("p",)),), (("p", "p"),), TURNS)
            self.check_pages(sure, expected, base=base)

    def test_by_names(self):
        self.assertEqual(sure(roll=(), moment=END, base=BASE), (("ann", "a"), ("bob", "h")))


class Wrong(Asks, unittest.TestCase):
    def test_each_word(self):
        self.check_pages(wrong, (("bob", "row"),), (1, 0, "paint", "bob", "b", "red"))
        self.check_pages(wrong, (("bob", "word"),), (1, 0, "paint", "bob", "z", "red"))
        self.check_pages(wrong, (("bob", "guide"),), (1, 0, "paint", "bob", "h", "red"), (2, 0, "guide", "bob", ("b",)))

    def test_right_and_may_are_not_wrong(self):
        self.check_pages(wrong, (), (1, 0, "paint", "ann", "a", "red"), (1, 0, "paint", "cat", "m", "red"))

    def test_a_letter_that_is_no_letter_of_the_mark(self):
        pages = [(1, 0, "paint", "cat", "m", "red"), (1, 0, "guide", "cat", ("b", "h"))]
        self.check_pages(wrong, (("cat", "guide"),), *pages)
        self.check_pages(wrong, (), *pages, (2, 0, "guide", "cat", ()))
        self.check_pages(wrong, (("cat", "guide"),), *pages, (2, 0, "guide", "cat", ("z",)))

    def test_in_the_order_of_the_book(self):
        pages = [(1, 0, "paint", name, "z", "red") for name in ("cat", "ann", "bob", "dan")]
        words = (("ann", "word"), ("dan", "word"), ("bob", "word"), ("cat", "word"))
        self.check_pages(wrong, words, (0, 0, "put", DAN, "bob"), *pages)

    def test_not_what_was_scraped(self):
        self.check_pages(wrong, (), (1, 0, "paint", "ann", "z", "red"), (2, 0, "scrape", "ann"))
        self.check_pages(wrong, (), (1, 0, "paint", "ann", "z", "red"), (2, 0, "out", "ann"))

    def test_by_names(self):
        self.assertEqual(wrong(moment=END, base=BASE, roll=()), ())


class Stale(Asks, unittest.TestCase):
    def test_another_colour_than_the_due_one(self):
        self.check_pages(stale, (("ann", "red"),), (1, 0, "paint", "ann", "a", "blue"))
        self.check_pages(stale, (), (1, 0, "paint", "ann", "a", "red"))
        self.check_pages(stale, (("bob", "blue"),), (1, 0, "paint", "bob", "h", "red"))
        self.check_pages(stale, (("cat", "green"),), (1, 0, "paint", "cat", "m", "pink"))

    def test_sections_that_are_not_painted_take_their_turn(self):
        self.check_pages(stale, (), (1, 0, "paint", "bob", "h", "blue"))

    def test_what_stands_ahead_grows_or_goes(self):
        pages = [(1, 0, "paint", "ann", "a", "red"), (1, 0, "paint", "bob", "h", "blue"),
                 (1, 0, "paint", "cat", "m", "green")]
        self.check_pages(stale, (), *pages)
        self.check_pages(stale, (("bob", "red"),), *pages, (2, 0, "out", "ann"))
        self.check_pages(stale, (("ann", "green"), ("bob", "red"), ("cat", "gold")), *pages,
                         (2, 0, "grow", "ann", 3, 1))
        self.check_pages(stale, (("ann", "blue"), ("bob", "red")), *pages, (2, 0, "put", DAN, "ann"))
        self.check_pages(stale, (), *pages, (2, 0, "put", DAN, ""))

    def test_in_the_order_of_the_book(self):
        pages = [(1, 0, "paint", name, "z", "pink") for name in ("cat", "ann", "bob")]
        self.check_pages(stale, (("ann", "red"), ("bob", "blue"), ("cat", "green")), *pages)

    def test_by_names(self):
        self.assertEqual(stale(moment=END, base=BASE, roll=()), ())


class Left(Asks, unittest.TestCase):
    def test_names_cans_and_bill(self):
        cans = (("a",), ("h",), ("b", "h", "m", "w"))
        self.check_pages(what_is_left, (("ann", "bob", "cat"), cans, ()))
        self.check_pages(what_is_left, (("ann", "cat"), (cans[0], cans[2]), ()), (1, 0, "paint", "bob", "z", "red"))

    def test_a_bill_less_what_is_painted(self):
        bill = [(1, 0, "bill", "h", 2), (1, 0, "bill", "a", 1), (1, 0, "bill", "z", 0)]
        told = what_is_left(BASE, in_order(bill), END)
        self.assertEqual(told[2], (("a", 1), ("h", 2), ("z", 0)))
        painted = [(2, 0, "paint", "bob", "h", "red"), (2, 0, "paint", "cat", "h", "red")]
        self.assertEqual(what_is_left(BASE, in_order(bill + painted), END)[2], (("a", 1), ("h", 0), ("z", 0)))
        self.assertEqual(what_is_left(BASE, in_order(bill + painted[:1]), END)[2], (("a", 1), ("h", 1), ("z", 0)))

    def test_a_letter_that_is_not_billed(self):
        self.assertEqual(what_is_left(BASE, ((1, 0, "paint", "bob", "h", "red"),), END)[2], ())

    def test_the_last_many_of_a_letter(self):
        pages = in_order([(1, 0, "bill", "h", 2), (2, 0, "bill", "h", 5), (3, 0, "bill", "h", 0)])
        for moment, bill in (((0, 0), ()), ((1, 0), (("h", 2),)), ((2, 7), (("h", 5),)), ((3, 0), (("h", 0),))):
            self.assertEqual(what_is_left(BASE, pages, moment)[2], bill)
        self.check_pages(lambda *asked: what_is_left(*asked)[2], (("h", 5),), (1, 0, "bill", "h", 2),
                         (1, 0, "bill", "h", 5))

    def test_all_painted(self):
        pages = [(1, 0, "paint", name, "a", "red") for name in ("ann", "bob", "cat")]
        self.check_pages(what_is_left, ((), (), (("a", 0),)), *pages, (1, 0, "bill", "a", 3))
        self.check_pages(what_is_left, ((), (), ()), *pages)

    def test_of_no_sections(self):
        self.check_pages(what_is_left, ((), (), ()), base=((9, 5, ()),) + BASE[1:])

    def test_by_names(self):
        self.assertEqual(what_is_left(moment=END, base=BASE, roll=())[0], ("ann", "bob", "cat"))


class Filled(Asks, unittest.TestCase):
    def test_a_world(self):
        self.check_pages(filled, ("world", ("a", "h", "m")), (1, 0, "bill", "m", 1))
        self.check_pages(filled, ("world", ("a", "h", "h")), (1, 0, "bill", "h", 2))
        self.check_pages(filled, ("world", ("a", "m")), (1, 0, "bill", "m", 1), (1, 0, "paint", "bob", "b", "red"))

    def test_no_world(self):
        self.check_pages(filled, ("no", ("few", ("m",))), (1, 0, "bill", "m", 2))
        self.check_pages(filled, ("no", ("few", ("z",))), (1, 0, "bill", "z", 1))
        self.check_pages(filled, ("no", ("crowd", (0,))), (1, 0, "bill", "a", 0))
        self.check_pages(filled, ("no", ("crowd", (1,))), (1, 0, "guide", "bob", ("b",)))

    def test_over(self):
        pages = [(2, 0, "paint", "ann", "h", "red"), (2, 0, "paint", "bob", "h", "red"),
                 (2, 0, "paint", "cat", "b", "red")]
        self.check_pages(filled, ("over", ("h",)), *pages, (1, 0, "bill", "h", 1))
        self.check_pages(filled, ("over", ("b", "h")), *pages, (1, 0, "bill", "h", 1), (3, 0, "bill", "b", 0))
        self.check_pages(filled, ("world", ()), *pages, (1, 0, "bill", "h", 2), (3, 0, "bill", "b", 1))
        self.check_pages(filled, ("world", ()), *pages)

    def test_over_goes_ahead_of_a_no(self):
        self.check_pages(filled, ("over", ("b",)), (1, 0, "bill", "b", 0), (1, 0, "bill", "z", 9),
                         (1, 0, "paint", "bob", "b", "red"))

    def test_all_painted_and_of_no_sections(self):
        pages = [(1, 0, "paint", name, "a", "red") for name in ("ann", "bob", "cat")]
        self.check_pages(filled, ("world", ()), *pages)
        self.check_pages(filled, ("no", ("few", ("a",))), *pages, (1, 0, "bill", "a", 4))
        self.check_pages(filled, ("world", ()), base=((9, 5, ()),) + BASE[1:])

    def test_by_names(self):
        self.assertEqual(filled(moment=END, base=BASE, roll=((1, 0, "bill", "b", 1),)), ("world", ("a", "h", "b")))


class Small(Refusals, unittest.TestCase):
    def test_as_the_words_tell_it(self):
        words, idle = set(), set()
        for base, roll, moment in small_walks(600, 75):
            self.assertIs(is_roll(roll), True)
            stands = Stands(base, roll, moment)
            self.check(base, roll, moment, stands)
            words.add(self.check_filled(base, roll, moment, stands))
            idle |= {(page[2], word) for page, word in stands.idle}
        self.assertEqual(words, {"over", "world", "crowd", "few"})
        self.assertEqual(idle, {("put", "twice"), ("put", "ahead"), ("put", "high"), ("put", "long"), ("out", "name"),
                                ("grow", "name"), ("grow", "high"), ("guide", "name"), ("scrape", "name"),
                                ("scrape", "void"), ("paint", "name"), ("paint", "full")})

    def check(self, base, roll, moment, stands):
        asked = (base, roll, moment)
        rows = {section[0]: stands.row(section) for section in stands.sections}
        for name in NAMES:
            if name in rows:
                self.assertEqual(row_of(*asked, name), rows[name])
            else:
                self.check_refused(NoName, [name], row_of, *asked, name)
        cans = {section[0]: stands.can(section) for section in stands.voids()}
        self.assertEqual(unfilled(*asked), tuple(cans))
        self.assertEqual(sure(*asked), tuple((name, can[0]) for name, can in cans.items() if len(can) == 1))
        self.assertEqual(wrong(*asked), stands.wrong())
        self.assertEqual(stale(*asked), stands.stale())
        if min([many for _, many in stands.left()], default=0) >= 0:
            self.assertEqual(what_is_left(*asked), (tuple(cans), tuple(cans.values()), stands.left()))

    def check_filled(self, base, roll, moment, stands):
        word, told = filled(base, roll, moment)
        over = tuple(letter for letter, many in stands.left() if many < 0)
        self.assertEqual(word == "over", bool(over))
        if over:
            self.assertEqual(told, over)
            return word
        cans = tuple(stands.can(section) for section in stands.voids())
        if word == "world":
            self.assertTrue(is_world(cans, stands.left(), told))
            self.check_all_painted(base, up_to(roll, moment), stands, told)
            return word
        self.assertEqual(word, "no")
        self.assertTrue(is_no(cans, stands.left(), told))
        return told[0]

    def check_all_painted(self, base, roll, stands, letters):
        """By a WORLD all can be painted, none of them WRONG, none OVER; each SURE one has its LETTER in it [78]."""
        names = [section[0] for section in stands.voids()]
        for name, letter in sure(base, roll, END):
            self.assertEqual(letter, letters[names.index(name)])
        pages = [END + ("paint", name, letter, "red") for name, letter in zip(names, letters)]
        whole = in_order(list(roll) + pages)
        self.assertEqual(unfilled(base, whole, END), ())
        self.assertEqual(filled(base, whole, END), ("world", ()))
        self.assertEqual([name for name, _ in wrong(base, whole, END) if name in names], [])

    def test_what_is_told_of_the_roll_up_to_it(self):
        for base, roll, moment in small_walks(150, 76):
            short = up_to(roll, moment)
            for deed in (unfilled, sure, wrong, stale):
                self.assertEqual(deed(base, roll, moment), deed(base, short, moment))
                self.assertEqual(deed(base, short, END), deed(base, short, moment))


class Large(unittest.TestCase):
    def test_as_large_as_may_be(self):
        chance = Random(77)
        words = sorted("".join(word) for word in product("abcd", repeat=3))[:60]
        sorts = ("p", "q", "r", "s", "t", "u")
        lexicon = tuple((word, sorts[k % 3:k % 3 + 4]) for k, word in enumerate(words))
        sections = tuple((name, 1 + k % 9, 20, ("ab",) + tuple(chance.choices(words, k=12)))
                         for k, name in enumerate("abcdefghijkl"))
        turns = tuple((2 * k + 1, tuple(chance.choices(("red", "blue", "gold"), k=6))) for k in range(4))
        base = ((40, 40, sections), lexicon, tuple(product(sorts, repeat=2)), turns)
        pages = [(day, 0, "guide", chance.choice("abcdef"), ("a", "b")) for day in range(26)]
        pages += [(30, k, "bill", letter, 3) for k, letter in enumerate("abcd")]
        pages += [(40 + k, 0, "paint", name, "c", "red") for k, name in enumerate("abc")]
        roll = in_order(pages)
        stands = Stands(base, roll, END)
        self.assertEqual(filled(base, roll, END)[0], "world")
        self.assertEqual(what_is_left(base, roll, END)[2], stands.left())
        self.assertEqual(stale(base, roll, END), stands.stale())
        self.assertEqual(len(unfilled(base, roll, END)), 9)
        self.assertEqual(sure(base, roll, END), ())
