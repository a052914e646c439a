"""What stands behind a MOMENT: the BOOK, the MARKS, what is PAINTED, the BILL, the IDLE PAGES [7], [72], [73]."""

import unittest

from leftspaces.cans import is_bill
from leftspaces.kinds import is_book
from leftspaces.pages import is_page
from leftspaces.rolls import in_order, up_to
from leftspaces.rows import is_guide
from leftspaces.views import bill_at, book_at, idle, marks_at, painted_at
from tests.walks import END, TURNS, Stands, small_walks

ANN = ("ann", 2, 4, ("re", "we"))
BOB = ("bob", 1, 2, ("e", "we"))
CAT = ("cat", 3, 1, ("e",))
DAN = ("dan", 1, 1, ("be",))
LEXICON = (("are", ("p",)), ("we", ("q",)))
BASE = ((9, 5, (ANN, BOB, CAT)), LEXICON, (("p", "q"),), TURNS)
VOID = ((9, 5, ()),) + BASE[1:]
VIEWS = (book_at, marks_at, painted_at, bill_at, idle)


class Asks(unittest.TestCase):
    """What a test of a view asks."""

    def check(self, view, expected, *pages, base=BASE, moment=END):
        """What is told behind such PAGES, handed in in any order."""
        roll = in_order(pages)
        before = repr((base, roll))
        told = view(base, roll, moment)
        self.assertEqual(repr(told), repr(expected))
        self.assertEqual(repr(view(moment=moment, roll=roll, base=base)), repr(expected))
        # What is told of a ROLL and a MOMENT is the same of the ROLL up to it [71].
        self.assertEqual(repr(view(base, up_to(roll, moment), moment)), repr(expected))
        self.assertEqual(repr((base, roll)), before)

    def at_moments(self, view, pages, *rows):
        """What is told behind each of some MOMENTS of the same PAGES."""
        for moment, expected in rows:
            self.check(view, expected, *pages, moment=moment)


class BookAt(Asks):
    def book(self, sections, *pages, base=BASE, moment=END):
        self.check(book_at, (9, 5, sections), *pages, base=base, moment=moment)

    def test_a_roll_of_none(self):
        self.book((ANN, BOB, CAT))
        self.book((), base=VOID)
        self.check(book_at, BASE[0], moment=(0, 0))

    def test_put(self):
        self.book((ANN, BOB, CAT, DAN), (1, 0, "put", DAN, ""))
        self.book((ANN, DAN, BOB, CAT), (1, 0, "put", DAN, "bob"))
        self.book((DAN, ANN, BOB, CAT), (1, 0, "put", DAN, "ann"))
        self.book((DAN,), (1, 0, "put", DAN, ""), base=VOID)

    def test_out(self):
        self.book((ANN, CAT), (1, 0, "out", "bob"))
        self.book((), (1, 0, "out", "bob"), (1, 0, "out", "ann"), (2, 0, "out", "cat"))
        again = ("ann", 1, 1, ("e",))
        self.book((BOB, CAT, again), (1, 0, "out", "ann"), (1, 1, "put", again, ""))

    def test_grow(self):
        self.book((ANN, ("bob", 5, 9, BOB[3]), CAT), (1, 0, "grow", "bob", 5, 9))
        self.book((ANN, ("bob", 1, 1, BOB[3]), CAT), (1, 0, "grow", "bob", 5, 9), (2, 0, "grow", "bob", 1, 1))

    def test_pages_of_other_kinds_leave_it(self):
        self.book((ANN, BOB, CAT), (1, 0, "guide", "ann", ("a",)), (2, 0, "paint", "ann", "a", "red"),
                  (3, 0, "scrape", "ann"), (4, 0, "bill", "a", 2))

    def test_moments_at_and_beside_those_of_pages(self):
        pages = [(3, 7, "put", DAN, ""), (3, 8, "out", "dan"), (4, 0, "out", "ann")]
        all_four, first = (9, 5, (ANN, BOB, CAT, DAN)), (9, 5, (ANN, BOB, CAT))
        self.at_moments(book_at, pages, ((0, 0), first), ((2, 999), first), ((3, 6), first), ((3, 7), all_four),
                        ((3, 8), first), ((3, 999), first), ((4, 0), (9, 5, (BOB, CAT))), (END, (9, 5, (BOB, CAT))))

    def test_of_one_moment_as_they_stand(self):
        self.book((ANN, BOB, CAT), (1, 0, "out", "dan"), (1, 0, "put", DAN, ""))
        self.book((ANN, BOB, CAT, ("dan", 2, 2, ("be",))), (1, 0, "grow", "dan", 2, 2), (1, 0, "put", DAN, ""))


class MarksAt(Asks):
    def marks(self, guides, *pages, base=BASE, moment=END):
        names = [section[0] for section in book_at(base, in_order(pages), moment)[2]]
        self.check(marks_at, tuple(zip(names, guides)), *pages, base=base, moment=moment)

    def test_none_was_told(self):
        self.marks((None, None, None))
        self.check(marks_at, (("ann", None), ("bob", None), ("cat", None)))
        self.check(marks_at, (), base=VOID)

    def test_a_mark(self):
        self.marks((None, ("b", "h"), None), (1, 0, "guide", "bob", ("b", "h")))

    def test_a_mark_told_again(self):
        pages = [(1, 0, "guide", "bob", ("b", "h")), (2, 0, "guide", "bob", ("z",))]
        self.at_moments(marks_at, pages, ((1, 0), (("ann", None), ("bob", ("b", "h")), ("cat", None))),
                        ((2, 0), (("ann", None), ("bob", ("z",)), ("cat", None))))

    def test_a_mark_lost_again(self):
        pages = [(1, 0, "guide", "bob", ("b", "h")), (2, 0, "guide", "bob", ())]
        self.marks((None, None, None), *pages)
        self.marks((None, ("b", "h"), None), *pages, moment=(1, 999))
        self.marks((None, ("a",), None), *pages, (3, 0, "guide", "bob", ("a",)))
        self.marks((None, None, None), (1, 0, "guide", "ann", ()))

    def test_by_out_the_mark_goes(self):
        pages = [(1, 0, "guide", "ann", ("a",)), (2, 0, "out", "ann"), (3, 0, "put", ANN, "bob")]
        self.marks((("a",), None, None), *pages, moment=(1, 0))
        self.marks((None, None), *pages, moment=(2, 0))
        self.marks((None, None, None), *pages)

    def test_by_grow_the_mark_stays(self):
        self.marks((("a",), None, None), (1, 0, "guide", "ann", ("a",)), (2, 0, "grow", "ann", 5, 5))

    def test_of_one_moment_as_they_stand(self):
        self.marks((("b",), None, None), (1, 0, "guide", "ann", ("b",)), (1, 0, "guide", "ann", ("a", "z")))


class PaintedAt(Asks):
    def test_nothing(self):
        self.check(painted_at, ())
        self.check(painted_at, (), (1, 0, "paint", "zoe", "a", "red"))

    def test_in_the_order_of_the_book(self):
        pages = [(1, 0, "paint", "cat", "z", "red"), (2, 0, "paint", "ann", "a", "pink")]
        self.check(painted_at, (("ann", "a", "pink"), ("cat", "z", "red")), *pages)
        self.check(painted_at, (("cat", "z", "red"),), *pages, moment=(1, 999))

    def test_what_is_painted_need_be_no_letter_of_the_mark(self):
        self.check(painted_at, (("ann", "z", "pink"),), (1, 0, "guide", "ann", ("a",)),
                   (2, 0, "paint", "ann", "z", "pink"))

    def test_scraped_and_painted_again(self):
        pages = [(1, 0, "paint", "ann", "a", "red"), (2, 0, "scrape", "ann"), (3, 0, "paint", "ann", "b", "blue")]
        self.at_moments(painted_at, pages, ((1, 0), (("ann", "a", "red"),)), ((2, 0), ()),
                        ((3, 0), (("ann", "b", "blue"),)))

    def test_full(self):
        self.check(painted_at, (("ann", "a", "red"),), (1, 0, "paint", "ann", "a", "red"),
                   (2, 0, "paint", "ann", "b", "blue"))

    def test_by_out_the_letter_goes_and_by_grow_it_stays(self):
        pages = [(1, 0, "paint", "ann", "a", "red"), (1, 5, "grow", "ann", 1, 1), (2, 0, "out", "ann"),
                 (3, 0, "put", ANN, "")]
        self.at_moments(painted_at, pages, ((1, 5), (("ann", "a", "red"),)), ((2, 0), ()), (END, ()))


class BillAt(Asks):
    def test_of_none(self):
        self.check(bill_at, ())
        self.check(bill_at, (), (1, 0, "paint", "ann", "a", "red"))

    def test_rising_by_letters(self):
        self.check(bill_at, (("a", 0), ("m", 3), ("z", 99)), (1, 0, "bill", "z", 99), (2, 0, "bill", "a", 0),
                   (3, 0, "bill", "m", 3))

    def test_the_many_of_the_last_one(self):
        pages = [(1, 0, "bill", "a", 2), (2, 0, "bill", "a", 5), (3, 0, "bill", "a", 0), (3, 1, "bill", "b", 1)]
        self.at_moments(bill_at, pages, ((0, 999), ()), ((1, 0), (("a", 2),)), ((2, 3), (("a", 5),)),
                        ((3, 0), (("a", 0),)), (END, (("a", 0), ("b", 1))))

    def test_of_one_moment_as_they_stand(self):
        self.check(bill_at, (("a", 9),), (1, 0, "bill", "a", 9), (1, 0, "bill", "a", 3))
        self.check(bill_at, (("a", 12),), (1, 0, "bill", "a", 12), (1, 0, "bill", "a", 3))


class Idle(Asks):
    def idle(self, expected, *pages, base=BASE, moment=END):
        self.check(idle, expected, *pages, base=base, moment=moment)

    def one(self, word, *deed):
        self.idle([((5, 0) + deed, word)], (5, 0) + deed)

    def test_none(self):
        self.idle([])
        self.idle([], (1, 0, "put", DAN, "bob"), (2, 0, "bill", "a", 1), (2, 0, "paint", "dan", "z", "red"))

    def test_each_word(self):
        self.one("twice", "put", ("ann", 1, 1, ("e",)), "")
        self.one("ahead", "put", DAN, "zoe")
        self.one("ahead", "put", DAN, "dan")
        self.one("high", "put", ("dan", 6, 1, ("be",)), "")
        self.one("high", "grow", "ann", 6, 1)
        self.one("void", "scrape", "ann")
        for deed in (("out", "zoe"), ("grow", "zoe", 9, 1), ("guide", "zoe", ("a",)), ("guide", "zoe", ()),
                     ("scrape", "zoe"), ("paint", "zoe", "a", "red")):
            self.one("name", *deed)

    def test_long(self):
        base = ((6, 5, ()),) + BASE[1:]
        page = (1, 0, "put", ("dan", 1, 9, ("e", "abcdefg", "e")), "")
        self.idle([(page, "long")], page, base=base)
        self.idle([], (1, 0, "put", ("dan", 1, 9, ("e", "abcdef", "e")), ""), base=base)

    def test_full(self):
        page = (2, 0, "paint", "ann", "b", "blue")
        self.idle([(page, "full")], (1, 0, "paint", "ann", "a", "red"), page)

    def test_the_first_word_that_is_so(self):
        base = ((6, 5, (ANN,)),) + BASE[1:]
        long = ("abcdefgh",)
        for word, deed in (("twice", (("ann", 6, 1, long), "zoe")), ("ahead", (("dan", 6, 1, long), "zoe")),
                           ("high", (("dan", 6, 1, long), "ann")), ("long", (("dan", 5, 1, long), "ann"))):
            page = (1, 0, "put") + deed
            self.idle([(page, word)], page, base=base)
        self.one("name", "grow", "zoe", 6, 1)

    def test_as_they_stand_and_up_to_the_moment(self):
        pages = [(3, 1, "out", "zoe"), (3, 0, "scrape", "ann"), (1, 0, "grow", "zoe", 1, 1), (1, 0, "out", "zoe")]
        told = [((1, 0, "out", "zoe"), "name"), ((1, 0, "grow", "zoe", 1, 1), "name"), ((3, 0, "scrape", "ann"), "void"),
                ((3, 1, "out", "zoe"), "name")]
        for moment, many in (((0, 999), 0), ((1, 0), 2), ((2, 999), 2), ((3, 0), 3), ((3, 1), 4), (END, 4)):
            self.idle(told[:many], *pages, moment=moment)

    def test_a_page_that_is_told_late(self):
        pages = [(2, 0, "out", "dan")]
        self.idle([((2, 0, "out", "dan"), "name")], *pages)
        self.idle([], *pages, (1, 0, "put", DAN, ""))


class Small(unittest.TestCase):
    def test_as_the_words_tell_it(self):
        words = set()
        for base, roll, moment in small_walks(600, 720):
            stands = Stands(base, roll, moment)
            asked = (base, roll, moment)
            before = repr(asked)
            self.assertEqual(book_at(*asked), (*base[0][:2], tuple(stands.sections)))
            names = stands.names()
            self.assertEqual(marks_at(*asked), tuple((name, stands.marks.get(name) or None) for name in names))
            self.assertEqual(painted_at(*asked),
                             tuple((name, *stands.painted[name]) for name in names if name in stands.painted))
            self.assertEqual(bill_at(*asked), tuple(sorted(stands.bill.items())))
            self.assertEqual(idle(*asked), stands.idle)
            self.check_kinds(asked)
            self.assertEqual(repr(asked), before)
            words |= {word for _, word in stands.idle}
        self.assertEqual(words, {"twice", "ahead", "high", "long", "name", "full", "void"})

    def check_kinds(self, asked):
        self.assertIs(is_book(book_at(*asked)), True)
        self.assertIs(is_bill(bill_at(*asked)), True)
        self.assertTrue(all(is_guide(guide) and guide != () for _, guide in marks_at(*asked)))
        self.assertTrue(all(is_page(page) for page, _ in idle(*asked)))
        self.assertEqual([view(*asked).__class__ for view in VIEWS], [tuple] * 4 + [list])
        self.assertTrue(all(pair.__class__ is tuple for pair in idle(*asked)))

    def test_what_is_told_is_the_askers_own(self):
        for base, roll, moment in small_walks(50, 721):
            told = idle(base, roll, moment)
            told.append(None)
            self.assertEqual(idle(base, roll, moment), told[:-1])

    def test_what_stands_hangs_on_the_set_of_pages_alone(self):
        for base, roll, moment in small_walks(100, 722):
            for view in VIEWS:
                self.assertEqual(view(base, in_order(list(reversed(roll)) + list(roll)), moment), view(base, roll, moment))
