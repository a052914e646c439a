"""PAGES, ROLLS and BASES, read [79], [80]."""

import unittest
from random import Random

from leftspaces.errors import NoText
from leftspaces.pagereadings import read_base, read_page, read_roll
from leftspaces.pages import is_base, is_page
from leftspaces.rolls import in_order, is_roll
from leftspaces.texts import base_lines, page_line, roll_lines
from tests.lines import (BASE, BASE_LINES, LINES, ODD_WORDS, PAGES, bad_in_base, bad_in_page, with_words_otherwise)
from tests.refusals import Refusals
from tests.things import SIXTY
from tests.walks import small_pages, small_walks


class Readings(Refusals):
    """What a test of lines that are read asks."""

    def refuses(self, row, word, deed, lines):
        before = list(lines) if isinstance(lines, list) else lines
        self.check_refused(NoText, [row, word], deed, lines)
        self.assertEqual(lines, before)

    def no_page(self, word, text):
        """A line writes no PAGE, by itself and as the only one of a list."""
        self.refuses(0, word, read_page, text)
        self.refuses(0, word, read_roll, [text])

    def no_base(self, row, word, lines):
        self.refuses(row, word, read_base, lines)


class ReadPage(Readings, unittest.TestCase):
    def test_a_page_of_each_kind(self):
        for page, line in zip(PAGES, LINES):
            self.assertEqual(repr(read_page(line)), repr(page))
        self.assertEqual(read_page(text=LINES[0]), PAGES[0])

    def test_what_is_written_is_read_as_the_same(self):
        chance = Random(80)
        for page in [*small_pages(chance, 500), *PAGES]:
            self.assertEqual(repr(read_page(page_line(page))), repr(page))

    def test_numbers_of_many_figures(self):
        for number in (123456789, 999999999):
            for page in ((1, 2, "bill", "a", number), (1, 2, "grow", "ann", number, 1),
                         (1, 2, "grow", "ann", 1, number),
                         (1, 2, "put", ("ann", number, number, ("x",)), "")):
                self.assertEqual(repr(read_page(page_line(page))), repr(page))

    def test_numbers_of_more_than_nine_figures(self):
        for number in ("1000000000", "9999999999", str(SIXTY), "1" * 3000):
            self.no_page(0, number + " 0 out ann")
            self.no_page(1, "0 " + number + " out ann")
            self.no_page(4, "1 2 bill a " + number)
            self.no_page(4, "1 2 bill a " + number + " 3")
            self.no_page(4, "1 2 grow ann " + number + " 1")
            self.no_page(5, "1 2 grow ann 1 " + number)
            self.no_page(5, "1 2 grow ann 1 " + number + " 3")
            self.no_page(4, "1 2 grow ann " + number + " " + number)
            self.no_page(3, "1 2 put ann:" + number + ":1:x -")
            self.no_page(3, "1 2 put ann:1:" + number + ":x -")

    def test_the_moment(self):
        for day, number in ((0, 0), (99999, 999)):
            self.assertEqual(read_page(f"{day} {number} out ann"), (day, number, "out", "ann"))
        for day in ("100000", "-1", "+1", "01", "00", "a", "", "1.0", "1_0", "0x1", "-0"):
            self.no_page(0, day + " 0 out ann")
        for number in ("1000", "-1", "+1", "01", "007", "a", "", "1.0"):
            self.no_page(1, "0 " + number + " out ann")

    def test_the_kind(self):
        for kind in ("", "puts", "Put", "ann", "book", "0", "-"):
            self.no_page(2, "1 2 " + kind + " ann")
            self.no_page(2, "1 2 " + kind)

    def test_a_word_too_few(self):
        for line in LINES:
            words = line.split(" ")
            for many in range(1, len(words)):
                self.no_page(many, " ".join(words[:many]))

    def test_a_word_too_many(self):
        for line in LINES:
            for more in ("x", "1", "-", "red", ""):
                self.no_page(len(line.split(" ")), line + " " + more)
            self.no_page(len(line.split(" ")), line + " x x")

    def test_void_words(self):
        self.no_page(0, "")
        self.no_page(0, " ")
        self.no_page(0, " 4 0 out ann")
        self.no_page(1, "4  0 out ann")
        self.no_page(2, "4 0  out ann")
        self.no_page(3, "4 0 out  ann")
        self.no_page(4, "4 0 out ann ")
        self.no_page(4, "4 0 guide ann ")
        self.no_page(4, "4 0 put ann:1:1:x ")

    def test_put(self):
        for section in ("ann", "ann:1:1", "ann:1:1:", "ann:1:1:x:y", "ann:0:1:x", "ann:1:0:x", "ann:01:1:x",
                        "ann:1:+1:x",
                        "ann:1:1:X", "ann:1:1:x,", "ann:1:1:,x", "ann:1:1:x,,y", "ann:1:1:abcdefghi", ":1:1:x",
                        "Ann:1:1:x",
                        "abcdefghi:1:1:x", "ann::1:x", "ann:1::x", "-", "ann:1:1:x;y", "ann:a:1:x"):
            self.no_page(3, "1 2 put " + section + " -")
        for ahead in ("Ann", "abcdefghi", "a,b", "--", "1", "a-"):
            self.no_page(4, "1 2 put ann:1:1:x " + ahead)
        self.assertEqual(read_page("1 2 put a:1:1:x a"), (1, 2, "put", ("a", 1, 1, ("x",)), "a"))

    def test_grow(self):
        for size in ("0", "00", "01", "-1", "+1", "a", "-", "1,1"):
            self.no_page(4, "1 2 grow ann " + size + " 1")
            self.no_page(5, "1 2 grow ann 1 " + size)
        self.no_page(3, "1 2 grow - 1 1")

    def test_guide(self):
        for letters in ("ea", "aa", "A", "a,e", "--", "a-", "1", "abcb"):
            self.no_page(4, "1 2 guide ann " + letters)
        self.no_page(3, "1 2 guide Ann a")
        self.assertEqual(read_page("1 2 guide ann abcdefghijz")[4], tuple("abcdefghijz"))

    def test_paint_and_bill(self):
        for letter in ("ab", "A", "-", "1"):
            self.no_page(4, "1 2 paint ann " + letter + " red")
            self.no_page(3, "1 2 bill " + letter + " 1")
        for colour in ("Red", "-", "1", "abcdefghi", "red,blue"):
            self.no_page(5, "1 2 paint ann a " + colour)
        for many in ("-1", "+1", "00", "01", "-", "a", "1.5"):
            self.no_page(4, "1 2 bill a " + many)

    def test_the_first_word_that_can_not_stand(self):
        self.no_page(0, "x x x x")
        self.no_page(1, "1 x x x")
        self.no_page(2, "1 2 x x")
        self.no_page(3, "1 2 out X X")
        self.no_page(4, "1 2 grow ann 0 0")

    def test_lines_with_words_otherwise(self):
        found = set()
        for line in LINES:
            for text in with_words_otherwise(line):
                at = bad_in_page(text)
                found.add(at)
                if at is None:
                    self.assertIs(is_page(read_page(text)), True)
                    self.assertEqual(page_line(read_page(text)), text)
                else:
                    self.no_page(at, text)
        self.assertEqual(found, {None, 0, 1, 2, 3, 4, 5, 6})

    def test_large_texts(self):
        self.no_page(0, "x" * 4000)
        self.no_page(0, " " * 4000)
        self.no_page(0, "9" * 4000)
        self.no_page(4, "1 2 out ann" + " x" * 1990)
        self.assertEqual(read_page("1 2 put ann:1:1:" + ",".join(["x"] * 1900) + " -")[3][3], ("x",) * 1900)


class ReadRoll(Readings, unittest.TestCase):
    def test_in_any_order(self):
        chance = Random(81)
        roll = in_order(PAGES)
        for _ in range(50):
            lines = list(LINES)
            chance.shuffle(lines)
            self.assertEqual(repr(read_roll(lines)), repr(roll))
        self.assertEqual(read_roll(lines=list(LINES)), roll)

    def test_some_twice(self):
        self.assertEqual(read_roll(list(LINES) * 3), in_order(PAGES))
        self.assertEqual(read_roll([LINES[2], LINES[2]]), (PAGES[2],))

    def test_none(self):
        self.assertEqual(repr(read_roll([])), "()")

    def test_the_first_line_that_writes_none(self):
        self.refuses(1, 3, read_roll, [LINES[0], "4 0 out", LINES[1]])
        self.refuses(2, 0, read_roll, [LINES[0], LINES[1], "", "x"])
        self.refuses(0, 2, read_roll, ["4 0 in ann", "x"])
        self.refuses(len(LINES), 0, read_roll, list(LINES) + ["book 9 5"])

    def test_what_is_written_is_read_as_the_same(self):
        for _, roll, _ in small_walks(200, 82):
            self.assertIs(is_roll(roll), True)
            self.assertEqual(repr(read_roll(roll_lines(roll))), repr(roll))


class ReadBase(Readings, unittest.TestCase):
    def test_a_base(self):
        self.assertEqual(repr(read_base(BASE_LINES)), repr(BASE))
        self.assertEqual(read_base(lines=["book 1 1", "turn 1 red"]), ((1, 1, ()), (), (), ((1, ("red",)),)))

    def test_without_sections_words_pairs(self):
        book, lexicon, follow, turns = BASE
        for base in (((9, 5, ()), lexicon, follow, turns), (book, (), follow, turns), (book, lexicon, (), turns),
                     (book, (), (), turns), ((9, 5, ()), (), (), ((1, ("red",)),))):
            self.assertEqual(repr(read_base(base_lines(base))), repr(base))

    def test_what_is_written_is_read_as_the_same(self):
        for base, _, _ in small_walks(100, 83):
            self.assertIs(is_base(base), True)
            self.assertEqual(repr(read_base(base_lines(base))), repr(base))
        nines = 999999999
        base = ((nines, nines, (("ann", nines, nines, ("x",)),)), (), (), ((1, ("a",)), (nines, ("a",))))
        self.assertEqual(repr(read_base(base_lines(base))), repr(base))

    def test_numbers_of_more_than_nine_figures(self):
        for number in ("1000000000", str(SIXTY)):
            self.no_base(0, 1, ["book " + number + " 9", "turn 1 red"])
            self.no_base(0, 2, ["book 9 " + number, "turn 1 red"])
            self.no_base(1, 1, ["book 9 9", "section ann:" + number + ":1:x", "turn 1 red"])
            self.no_base(1, 1, ["book 9 9", "section ann:1:" + number + ":x", "turn 1 red"])
            self.no_base(1, 1, ["book 9 9", "turn " + number + " red"])
            self.no_base(2, 1, ["book 9 9", "turn 1 red", "turn " + number + " red"])

    def test_no_line_at_all(self):
        self.no_base(0, 0, [])

    def test_no_turn(self):
        for many in range(1, 9):
            self.no_base(many, 0, BASE_LINES[:many])

    def test_begun_with_another_line_than_that_of_the_book(self):
        for line in BASE_LINES[1:]:
            self.no_base(0, 0, [line])
            self.no_base(0, 0, [line] + BASE_LINES)
        self.no_base(0, 0, BASE_LINES[1:])

    def test_a_line_is_looked_at_by_itself_first(self):
        self.no_base(0, 1, ["section x"])
        self.no_base(0, 1, ["word a name"])
        self.no_base(0, 1, ["turn 0 red"])
        self.no_base(2, 2, ["book 9 5", "turn 1 red", "book 9"])
        self.no_base(2, 2, ["book 9 5", "turn 1 red", "word ann b,a"])

    def test_two_books(self):
        self.no_base(1, 0, ["book 9 5", "book 9 5", "turn 1 red"])
        self.no_base(1, 0, ["book 9 5", "book 8 5", "turn 1 red"])
        self.no_base(1, 0, ["book 9 5", "book 10 6", "turn 1 red"])
        self.no_base(2, 0, ["book 9 5", "turn 1 red", "book 9 5"])

    def test_out_of_the_order_of_kinds(self):
        self.no_base(2, 0, ["book 9 5", "word ann name", "section ann:1:1:x", "turn 1 red"])
        self.no_base(2, 0, ["book 9 5", "follow a b", "word ann name", "turn 1 red"])
        self.no_base(2, 0, ["book 9 5", "turn 1 red", "follow a b"])
        self.no_base(2, 0, ["book 9 5", "turn 1 red", "section ann:1:1:x"])
        self.no_base(2, 0, ["book 9 5", "follow a b", "section ann:1:1:x", "x"])

    def test_sections(self):
        self.no_base(2, 0, ["book 9 5", "section ann:1:1:x", "section ann:1:1:x", "turn 1 red"])
        self.no_base(3, 0, ["book 9 5", "section ann:1:1:x", "section bob:1:1:x", "section ann:2:2:y", "turn 1 red"])
        self.no_base(1, 0, ["book 9 5", "section ann:6:1:x", "turn 1 red"])
        self.no_base(1, 0, ["book 3 5", "section ann:1:1:abcd", "turn 1 red"])
        self.no_base(1, 0, ["book 3 5", "section ann:1:1:abc,abcd,a", "turn 1 red"])
        self.assertEqual(read_base(["book 3 5", "section abcdefgh:5:9:abc", "turn 1 red"])[0][2],
                         (("abcdefgh", 5, 9, ("abc",)),))
        self.assertEqual(read_base(["book 9 5", "section bob:1:1:x", "section ann:1:1:x", "turn 1 red"])[0][2][1][0],
                         "ann")

    def test_words_rise(self):
        for one, other in (("ann", "ann"), ("inn", "ann"), ("anna", "ann")):
            self.no_base(2, 0, ["book 9 5", f"word {one} a", f"word {other} b", "turn 1 red"])
        self.no_base(3, 0, ["book 9 5", "word ann a", "word was a", "word inn a", "turn 1 red"])
        self.assertEqual(read_base(["book 9 5", "word ann b", "word anna a", "turn 1 red"])[1],
                         (("ann", ("b",)), ("anna", ("a",))))

    def test_pairs_rise(self):
        for one, other in (("a b", "a b"), ("a b", "a a"), ("b a", "a b"), ("b a", "a z")):
            self.no_base(2, 0, ["book 9 5", "follow " + one, "follow " + other, "turn 1 red"])
        self.no_base(3, 0, ["book 9 5", "follow a b", "follow c d", "follow b c", "turn 1 red"])
        self.assertEqual(read_base(["book 9 5", "follow a b", "follow a c", "follow b a", "turn 1 red"])[2],
                         (("a", "b"), ("a", "c"), ("b", "a")))

    def test_turns_rise(self):
        self.no_base(1, 0, ["book 9 5", "turn 2 red"])
        self.no_base(1, 0, ["book 9 5", "turn 10 red", "turn 1 red"])
        self.no_base(1, 1, ["book 9 5", "turn 0 red"])
        self.no_base(3, 0, ["book 9 5", "turn 1 red", "turn 5 red", "turn 3 red"])
        for one, other in ((1, 1), (3, 3), (3, 2), (10, 9)):
            lines = ["book 9 5", "turn 1 red"] + [f"turn {one} red"] * (one > 1) + [f"turn {other} blue"]
            self.no_base(len(lines) - 1, 0, lines)
        self.assertEqual(read_base(["book 9 5", "turn 1 b", "turn 9 a", "turn 10 a"])[3],
                         ((1, ("b",)), (9, ("a",)), (10, ("a",))))

    def test_a_word_too_few_and_too_many(self):
        for row, line in enumerate(BASE_LINES):
            words = line.split(" ")
            for many in range(1, len(words)):
                self.no_base(row, many, BASE_LINES[:row] + [" ".join(words[:many])] + BASE_LINES[row:])
            for more in ("x", "1", "-", ""):
                self.no_base(row, len(words), BASE_LINES[:row] + [line + " " + more] + BASE_LINES[row:])

    def test_words_that_can_not_stand(self):
        for at, text in ((1, "book 0 5"), (1, "book 09 5"), (1, "book +9 5"), (2, "book 9 0"), (2, "book 9 -5"),
                         (1, "book  9 5"), (0, " book 9 5"), (3, "book 9 5 "), (0, "Book 9 5"), (0, "books 9 5"),
                         (0, ""), (0, "4 0 out ann")):
            self.no_base(0, at, [text] + BASE_LINES)
        for at, text in ((1, "section ann"), (1, "section ann:1:1:"), (1, "section ann:0:1:x"), (1, "section -"),
                         (1, "word a name"), (1, "word abcdefghi name"), (1, "word Ann name"), (2, "word ann b,a"),
                         (2, "word ann a,a"), (2, "word ann a,"), (2, "word ann -"), (1, "follow - a"),
                         (2, "follow a A"),
                         (1, "turn 0 red"), (1, "turn 01 red"), (1, "turn -1 red"), (2, "turn 1 red,"), (2, "turn 1 -"),
                         (2, "turn 1 red,,blue"), (2, "turn 1 Red")):
            self.no_base(1, at, BASE_LINES[:1] + [text] + BASE_LINES[1:])

    def test_lists_of_lines_otherwise(self):
        chance = Random(84)
        found = set()
        for row, line in enumerate(BASE_LINES):
            for text in with_words_otherwise(line):
                found.add(self.check(BASE_LINES[:row] + [text] + BASE_LINES[row + 1:]))
        for _ in range(2000):
            lines = list(BASE_LINES)
            for _ in range(chance.randint(1, 2)):
                lines.insert(chance.randint(0, len(lines)), lines.pop(chance.randrange(len(lines))))
            self.check(lines)
            self.check(lines[:chance.randint(0, len(lines))])
            self.check(lines + [chance.choice(BASE_LINES)])
        self.assertGreater(len(found), 30)

    def check(self, lines):
        bad = bad_in_base(lines)
        if bad is None:
            base = read_base(lines)
            self.assertIs(is_base(base), True)
            self.assertEqual(base_lines(base), lines)
        else:
            self.no_base(*bad, lines)
        return bad

    def test_each_odd_word_alone(self):
        for word in ODD_WORDS:
            self.assertIsNotNone(self.check([word]))

    def test_as_large_as_may_be(self):
        words = sorted(a + b + c for a in "abcd" for b in "abcd" for c in "abcd")[:60]
        base = ((40, 40, tuple((name, 9, 20, ("abcdefgh",) * 13) for name in "abcdefghijkl")),
                tuple((word, ("p", "q", "r", "s")) for word in words),
                tuple((one, other) for one in "pqrstu" for other in "pqrstu"),
                tuple((least, ("red",) * 6) for least in (1, 3, 5, 9)))
        self.assertEqual(repr(read_base(base_lines(base))), repr(base))

    def test_large_lists(self):
        lines = ["book 9 5"] + sorted(f"word {a}{b}{c} x" for a in "abcdefghij" for b in "abcdefghij" for c in "abcd")
        self.assertEqual(len(read_base(lines + ["turn 1 red"])[1]), 400)
        self.no_base(0, 0, ["x"] * 5000)
