"""SECTIONS spread over the sheets of a BOOK, and how many sheets it has [20]."""

import unittest
from itertools import product
from random import Random

from leftspaces.bending import bent
from leftspaces.spreading import sheets_of, spread
from tests.things import SIXTY, all_lays

WIDTH = 30


def section(name, high, many):
    """A SECTION of so many lines by a WIDTH of two signs, with one word in each."""
    return name, high, 1, ("a",) * many


def begin_lines(book, line):
    """The number of the line on which each SECTION begins, as [20] tells it, line by line."""
    width, lines, sections = book
    told = []
    for part in sections:
        while len({number // lines for number in range(line, line + part[1])}) > 1:
            line += 1
        told.append(line)
        line += len(bent(part, width))
    return told


def rows_of(book, line):
    """The rows of a BOOK from a line on, as [20] tells them."""
    width, lines, sections = book
    return tuple((part[0], begin // lines, begin % lines, len(bent(part, width)))
                 for part, begin in zip(sections, begin_lines(book, line)))


def small_books(many, seed):
    """So many BOOKS of few SECTIONS on small sheets, always the same ones of a seed."""
    chance = Random(seed)
    for _ in range(many):
        lines = chance.randint(1, 6)
        width = chance.randint(3, 8)
        sections = tuple(
            ("abcdef"[k], chance.randint(1, lines), chance.randint(1, 9),
             tuple("xyz"[:chance.randint(1, 3)] for _ in range(chance.randint(1, 5))))
            for k in range(chance.randint(0, 6)))
        yield width, lines, sections


class Spread(unittest.TestCase):
    def told(self, book, line, expected):
        rows = spread(book, line)
        self.assertEqual(rows, expected)
        self.assertIs(rows.__class__, tuple)
        for row in rows:
            self.assertIs(row.__class__, tuple)
            self.assertEqual([part.__class__ for part in row], [str, int, int, int])

    def test_sections_one_behind_the_other(self):
        sections = (("ann", 2, 4, ("nn", "was", "old")), ("bob", 1, 2, ("ob",)), ("cat", 3, 1, ("at",)))
        self.told((WIDTH, 20, sections), 0, (("ann", 0, 0, 2), ("bob", 0, 2, 1), ("cat", 0, 3, 3)))
        self.told((7, 20, sections), 0, (("ann", 0, 0, 3), ("bob", 0, 3, 1), ("cat", 0, 4, 3)))
        self.told((7, 20, sections), 5, (("ann", 0, 5, 3), ("bob", 0, 8, 1), ("cat", 0, 9, 3)))

    def test_a_section_goes_on_over_sheets(self):
        sections = (section("ann", 1, 8), section("bob", 1, 2))
        self.told((2, 3, sections), 0, (("ann", 0, 0, 8), ("bob", 2, 2, 2)))
        self.told((2, 3, sections), 2, (("ann", 0, 2, 8), ("bob", 3, 1, 2)))

    def test_a_space_that_is_not_all_on_one_sheet(self):
        sections = (section("ann", 2, 3), section("bob", 3, 3))
        self.told((2, 5, sections), 0, (("ann", 0, 0, 3), ("bob", 1, 0, 3)))
        self.told((2, 6, sections), 0, (("ann", 0, 0, 3), ("bob", 0, 3, 3)))
        self.told((2, 4, sections), 0, (("ann", 0, 0, 3), ("bob", 1, 0, 3)))
        self.told((2, 3, sections), 0, (("ann", 0, 0, 3), ("bob", 1, 0, 3)))

    def test_a_space_of_which_the_last_line_is_the_last_of_a_sheet(self):
        self.told((2, 4, (section("ann", 2, 2), section("bob", 2, 5))), 0, (("ann", 0, 0, 2), ("bob", 0, 2, 5)))
        self.told((2, 4, (section("ann", 2, 2), section("bob", 3, 5))), 0, (("ann", 0, 0, 2), ("bob", 1, 0, 5)))

    def test_the_first_section_too(self):
        sections = (section("ann", 3, 3), section("bob", 1, 1))
        begins = ((0, 0), (0, 1), (0, 2), (1, 0), (1, 0), (1, 0), (1, 1))
        for line, (sheet, first) in enumerate(begins):
            behind = sheet * 5 + first + 3
            self.told((2, 5, sections), line, (("ann", sheet, first, 3), ("bob", behind // 5, behind % 5, 1)))

    def test_only_its_space_has_to_be_on_one_sheet(self):
        self.told((2, 3, (section("ann", 1, 2), section("bob", 1, 3))), 0, (("ann", 0, 0, 2), ("bob", 0, 2, 3)))

    def test_a_space_as_high_as_a_sheet(self):
        sections = (section("ann", 4, 5), section("bob", 4, 4), section("cat", 4, 9))
        self.told((2, 4, sections), 0, (("ann", 0, 0, 5), ("bob", 2, 0, 4), ("cat", 3, 0, 9)))
        self.told((2, 4, sections), 1, (("ann", 1, 0, 5), ("bob", 3, 0, 4), ("cat", 4, 0, 9)))
        self.told((2, 1, (section("ann", 1, 3), section("bob", 1, 1))), 7, (("ann", 7, 0, 3), ("bob", 10, 0, 1)))

    def test_no_sections(self):
        for line in (0, 1, 99, SIXTY):
            self.told((WIDTH, 20, ()), line, ())

    def test_begun_at_a_line_far_out(self):
        sections = (section("ann", 2, 3), section("bob", 1, 1))
        far = SIXTY // 10 * 10
        self.told((2, 10, sections), far + 8, (("ann", far // 10, 8, 3), ("bob", far // 10 + 1, 1, 1)))
        self.told((2, 10, sections), far + 9, (("ann", far // 10 + 1, 0, 3), ("bob", far // 10 + 1, 3, 1)))

    def test_a_line_left_out_is_nought(self):
        book = (2, 5, (section("ann", 2, 4), section("bob", 2, 4)))
        self.assertEqual(spread(book), spread(book, 0))
        self.assertEqual(spread(book=book, line=3), spread(book, 3))

    def test_a_space_beside_which_no_word_fits(self):
        book = (3, 9, (("ann", 2, 20, ("abc", "abc")), ("bob", 2, 1, ("ab",))))
        self.told(book, 0, (("ann", 0, 0, 4), ("bob", 0, 4, 2)))

    def test_as_large_as_may_be(self):
        sections = tuple((name, 9, 20, ("abcdefgh",) * 13) for name in "abcdefghijkl")
        rows = spread((40, 40, sections), 0)
        self.assertEqual(rows, rows_of((40, 40, sections), 0))
        self.assertEqual([row[0] for row in rows], list("abcdefghijkl"))


class Small(unittest.TestCase):
    def test_as_the_words_tell_it(self):
        for book in small_books(300, 20):
            for line in (0, 1, 2, 3, 7):
                self.assertEqual(spread(book, line), rows_of(book, line), book)

    def test_no_line_is_shared_and_each_space_is_on_one_sheet(self):
        for book in small_books(300, 21):
            lines = book[1]
            ahead = 0
            for (_, sheet, line, many), part in zip(spread(book), book[2]):
                self.assertGreaterEqual(sheet * lines + line, ahead)
                self.assertLess(line, lines)
                self.assertLessEqual(line + part[1], lines)
                ahead = sheet * lines + line + many

    def test_from_a_later_line_on_none_begins_sooner(self):
        for book in small_books(200, 22):
            for line in range(2 * book[1]):
                one, other = begin_lines(book, line), begin_lines(book, line + 1)
                self.assertTrue(all(a <= b for a, b in zip(one, other)))
                rows = zip(spread(book, line), spread(book, line + 1))
                self.assertTrue(all(row[1:3] <= later[1:3] for row, later in rows))

    def test_in_no_other_way_does_a_section_begin_on_a_line_ahead(self):
        chance = Random(23)
        for _ in range(60):
            lines = chance.randint(2, 4)
            sections = tuple((name, chance.randint(1, 2), chance.randint(1, 3),
                              tuple("xyz"[:chance.randint(1, 3)] for _ in range(chance.randint(1, 2))))
                             for name in "ab")
            first = [sheet * lines + line for _, sheet, line, _ in spread((4, lines, sections))]
            lays = [sorted({len(lay) for lay in all_lays(part, 4, 4)}) for part in sections]
            for begin, many, gap in product(range(4), lays[0], range(4)):
                begins = (begin, begin + many + gap)
                whole = all(at // lines == (at + part[1] - 1) // lines for at, part in zip(begins, sections))
                if whole:
                    self.assertTrue(all(one <= other for one, other in zip(first, begins)))


class Sheets(unittest.TestCase):
    def test_up_to_the_last_line_of_the_last_section(self):
        self.assertEqual(sheets_of((2, 5, (section("ann", 2, 4),))), 1)
        self.assertEqual(sheets_of((2, 5, (section("ann", 2, 5),))), 1)
        self.assertEqual(sheets_of((2, 5, (section("ann", 2, 6),))), 2)
        self.assertEqual(sheets_of((2, 5, (section("ann", 2, 10),))), 2)
        self.assertEqual(sheets_of((2, 5, (section("ann", 2, 11),))), 3)
        self.assertEqual(sheets_of((2, 1, (section("ann", 1, 11),))), 11)

    def test_a_sheet_that_a_space_begins(self):
        book = (2, 5, (section("ann", 2, 4), section("bob", 2, 2)))
        self.assertEqual(sheets_of(book), 2)
        self.assertEqual(sheets_of((2, 6) + book[2:]), 1)
        self.assertEqual(sheets_of((2, 2) + book[2:]), 3)

    def test_of_no_sections(self):
        for lines in (1, 20, SIXTY):
            self.assertEqual(sheets_of((WIDTH, lines, ())), 0)

    def test_a_number(self):
        self.assertIs(sheets_of(book=(2, 5, (section("ann", 2, 4),))).__class__, int)
        self.assertIs(sheets_of((2, 5, ())).__class__, int)

    def test_as_the_words_tell_it(self):
        for book in small_books(300, 24):
            last = [begin + len(bent(part, book[0])) - 1 for begin, part in zip(begin_lines(book, 0), book[2])]
            self.assertEqual(sheets_of(book), last[-1] // book[1] + 1 if last else 0)
