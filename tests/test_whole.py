"""A walk over the whole program [3]: books are spread, read, painted, grown; pages are written, read and taken in."""

import unittest
from random import Random

from leftspaces.anew import anew_lines, fewest_anew
from leftspaces.anewchecker import lets_anew
from leftspaces.barrierchecker import lets_barrier
from leftspaces.bending import bent
from leftspaces.bentchecker import lets_bent
from leftspaces.canbe import can_be, left_by, world_with
from leftspaces.cans import are_cans, is_bill
from leftspaces.changing import alike_from, grown
from leftspaces.desk import Desk
from leftspaces.errors import NoPaper, NoReading, NoStep, NoWorld
from leftspaces.joining import joined_bills
from leftspaces.laychecker import lets_lay
from leftspaces.lays import line_words
from leftspaces.nochecker import lets_no
from leftspaces.offsetchecker import lets_offsets
from leftspaces.pagereadings import read_base, read_page, read_roll
from leftspaces.pages import is_base
from leftspaces.parting import offsets, stretch_colours, sums
from leftspaces.rangechecker import lets_least, lets_most
from leftspaces.ranges import least_of, most_of
from leftspaces.reading import can, reading_with
from leftspaces.readingchecker import lets_reading
from leftspaces.repaintchecker import lets_repainted
from leftspaces.repainting import fewest_repainted
from leftspaces.rolls import joined
from leftspaces.shifts import shift, turned
from leftspaces.signs import lines_text, many_signs, place_of, sign_at
from leftspaces.slipchecker import lets_slips
from leftspaces.slips import fewest_slips
from leftspaces.spreading import sheets_of, spread
from leftspaces.states import filled, row_of, stale, sure, unfilled, what_is_left, wrong
from leftspaces.texts import base_lines, page_line, roll_lines
from leftspaces.turns import class_of, colours
from leftspaces.verdicts import verdict
from leftspaces.views import bill_at, book_at, idle, marks_at, painted_at
from leftspaces.workshop import Workshop
from leftspaces.worldchecker import lets_world
from leftspaces.worlds import world
from tests.filling import LETTERS

END = (99999, 999)
SORTS = ("act", "name", "tool")
NAMES = ("ann", "bob", "cat", "dan", "eve", "fay", "gil")
TURNS = (((1, ("red", "blue")), (3, ("green", "gold", "pink"))), ((1, ("red",)), (2, ("blue", "blue", "gold"))))


def some_base(chance):
    """A BASE whose SECTIONS are of words of its LEXICON, of the first one without its first LETTER."""
    words = sorted({"".join(chance.choices("abe", k=chance.choice((2, 3)))) for _ in range(16)})
    lexicon = tuple((word, tuple(sorted(chance.sample(SORTS, chance.choice((1, 1, 2)))))) for word in words)
    follow = tuple((one, other) for one in SORTS for other in SORTS if chance.random() < 0.8)
    lines = chance.randint(4, 6)
    sections = []
    for name in chance.sample(NAMES, chance.randint(1, 7)):
        told = [chance.choice(words) for _ in range(chance.randint(1, 9))]
        told[0] = told[0][1:]
        sections.append((name, chance.randint(1, 4), chance.randint(1, 4), tuple(told)))
    return (chance.randint(5, 9), lines, tuple(sections)), lexicon, follow, chance.choice(TURNS)


def some_bases(many, seed):
    """So many BASES, each with a chance of its own, always the same ones of a seed."""
    for k in range(many):
        chance = Random(seed + k)
        yield chance, some_base(chance)


def paint_pages(base, names, letters, colours_told):
    """PAGES by which all these SPACES are painted."""
    return [(5, k, "paint", *told) for k, told in enumerate(zip(names, letters, colours_told))]


class Spread(unittest.TestCase):
    def test_no_sign_is_lost_and_none_stands_in_a_space(self):
        for _, base in some_bases(60, 100):
            book = base[0]
            self.assertIs(is_base(base), True)
            taken = {}
            rows = spread(book)
            for (name, sheet, line, many), section in zip(rows, book[2]):
                lay = bent(section, book[0])
                self.assertEqual((name, many), (section[0], lets_bent(section, lay, book[0])))
                self.assertEqual(many, lets_lay(section, lay, book[0]))
                self.assertLessEqual(line + section[1], book[1])
                for i, text in enumerate(lines_text(section, lay, book[0])):
                    self.assertNotIn(sheet * book[1] + line + i, taken)
                    taken[sheet * book[1] + line + i] = text
                self.check_signs(section, lay, book[0])
            self.assertEqual(sheets_of(book), max(taken) // book[1] + 1)

    def check_signs(self, section, lay, width):
        signs = "".join(section[3])
        texts = lines_text(section, lay, width)
        self.assertEqual(many_signs(section), len(signs))
        for k, sign in enumerate(signs):
            line, column = place_of(section, lay, k)
            self.assertEqual(sign_at(section, lay, line, column), k)
            self.assertEqual(texts[line][column], sign)
        self.assertEqual("".join("".join(line_words(section, lay, i)) for i in range(len(lay))), signs)
        self.assertEqual("".join(texts).replace("#", "").replace(" ", ""), signs)


class Read(unittest.TestCase):
    def test_each_letter_has_a_reading_or_a_barrier(self):
        for chance, base in some_bases(40, 200):
            _, lexicon, follow, _ = base
            roll = tuple((0, k, "guide", section[0], tuple(sorted(chance.sample("abez", 2))))
                         for k, section in enumerate(base[0][2]) if chance.random() < 0.3)
            for name, _ in marks_at(base, roll, END):
                row = row_of(base, roll, END, name)
                letters = can(lexicon, follow, row)
                for letter in LETTERS:
                    self.check_letter(lexicon, follow, row, letter, letters)
                self.check_slips(lexicon, follow, row, letters)

    def check_letter(self, lexicon, follow, row, letter, letters):
        word, made, told = verdict(lexicon, follow, row, letter)
        self.assertEqual(told, letters)
        self.assertEqual(word in ("right", "may"), letter in letters)
        try:
            reading = reading_with(lexicon, follow, row, letter)
            self.assertIs(lets_reading(lexicon, follow, row, reading), True)
            self.assertIn(letter, letters)
            self.assertIn(reading[0][0], made)
            paper = (("act", "name", "tool"),) * (len(row[1]) - 1) + ((),)
            with self.assertRaises(NoPaper):
                lets_barrier(lexicon, follow, row, letter, paper)
        except NoReading as refusal:
            self.assertIs(lets_barrier(lexicon, follow, row, letter, refusal.paper), True)
            self.assertNotIn(letter, letters)

    def check_slips(self, lexicon, follow, row, letters):
        try:
            paper = fewest_slips(lexicon, follow, row)
            self.assertIs(lets_slips(lexicon, follow, row, paper), True)
            self.assertEqual(paper[0] == 0, letters != ())
        except NoReading as refusal:
            loose = (None, tuple("?" * len(pattern) for pattern in row[1]))
            self.assertEqual(letters, ())
            for letter in LETTERS:
                self.assertIs(lets_barrier(lexicon, follow, loose, letter, refusal.paper), True)


class Filled(unittest.TestCase):
    def test_a_world_or_a_no_and_what_each_can_be(self):
        words = set()
        for chance, base in some_bases(60, 300):
            roll = tuple((0, 0, "bill", letter, chance.randint(0, 3)) for letter in "abe" if chance.random() < 0.5)
            word, paper = filled(base, roll, END)
            names, cans, bill = what_is_left(base, roll, END)
            self.assertEqual(bill, bill_at(base, roll, END))
            self.assertEqual((are_cans(cans), is_bill(bill), len(names)), (True, True, len(cans)))
            words.add(word)
            if word == "world":
                self.assertIs(lets_world(cans, bill, paper), True)
                self.check_counts(cans, bill)
            else:
                self.assertIs(lets_no(cans, bill, paper), True)
            self.check_each(cans, bill, word)
            self.check_repainted(chance, cans, bill, word)
        self.assertEqual(words, {"world", "no"})

    def check_each(self, cans, bill, word):
        for space in range(len(cans)):
            letters = can_be(cans, bill, space)
            self.assertEqual(letters != (), word == "world")
            for letter in cans[space]:
                told, paper = world_with(cans, bill, space, letter)
                self.assertEqual(told == "world", letter in letters)
                left = left_by(cans, bill, space, letter)
                if told == "world":
                    self.assertIs(lets_world(cans, bill, paper), True)
                elif told == "no":
                    self.assertIs(lets_no(*left, paper), True)
                else:
                    self.assertIsNone(left)

    def check_counts(self, cans, bill):
        for letter in "abez":
            if letter not in dict(bill):
                greatest, least = most_of(cans, bill, letter), least_of(cans, bill, letter)
                self.assertEqual(lets_most(cans, bill, letter, greatest[1]), greatest[0])
                self.assertEqual(lets_least(cans, bill, letter, least[1]), least[0])
                for many in range(len(cans) + 2):
                    told = world(cans, tuple(sorted(bill + ((letter, many),))))[0]
                    self.assertEqual(told == "world", least[0] <= many <= greatest[0])

    def check_repainted(self, chance, cans, bill, word):
        painted = tuple(chance.choice((None, "a", "b", "e", "z")) for _ in cans)
        try:
            paper = fewest_repainted(cans, bill, painted)
            self.assertEqual(lets_repainted(cans, bill, painted, paper), paper[0])
            self.assertEqual(word, "world")
        except NoWorld as refusal:
            self.assertIs(lets_no(cans, bill, refusal.paper), True)
            self.assertEqual(word, "no")

    def test_two_books_in_one(self):
        worlds = []
        for _, base in some_bases(60, 350):
            roll = tuple((0, 0, "bill", letter, 1) for letter in "ab")
            _, cans, bill = what_is_left(base, roll, END)
            if world(cans, bill)[0] == "world":
                worlds.append((cans, bill, world(cans, bill)[1]))
        for (cans, bill, letters), (others, other, more) in zip(worlds, worlds[1:]):
            self.assertIs(lets_world(cans + others, joined_bills(bill, other), letters + more), True)
        self.assertGreater(len(worlds), 5)


class Painted(unittest.TestCase):
    def test_parted_among_painters_all_is_as_if_one_had_painted(self):
        painted = 0
        for chance, base in some_bases(80, 400):
            word, letters = filled(base, (), END)
            if word == "world":
                pages = self.parted_pages(chance, base, letters)
                self.check_shops(chance, base, pages)
                self.check_all_painted(base, tuple(sorted(pages)), letters)
                painted += 1
        self.assertGreater(painted, 20)

    def parted_pages(self, chance, base, letters):
        """The PAGES of two painters, each of which paints its stretch behind its OFFSET."""
        sections, turns = base[0][2], base[3]
        highs = tuple(section[1] for section in sections)
        cut = chance.randint(0, len(highs))
        stretches = (highs[:cut], highs[cut:])
        ahead = offsets(turns, stretches)
        self.assertIs(lets_offsets(turns, stretches, ahead), True)
        told = stretch_colours(turns, stretches[1], ahead[1])
        told = stretch_colours(turns, stretches[0], ahead[0]) + told
        self.assertEqual(told, colours(turns, highs))
        added = tuple(a + b for a, b in zip(ahead[1], sums(turns, stretches[1])))
        self.assertEqual(added, sums(turns, highs))
        return paint_pages(base, [section[0] for section in sections], letters, told)

    def check_shops(self, chance, base, pages):
        """Two WORKSHOPS that took in one another tell the same, a DESK that is told the lines, too."""
        one, other, desk = Workshop(base), Workshop(base), Desk()
        self.assertEqual(desk.say("base " + " / ".join(base_lines(base))), "ok")
        for page in chance.sample(pages, len(pages)):
            self.assertEqual(read_page(page_line(page)), page)
            self.assertIs(chance.choice((one, other)).tell(page), True)
            self.assertEqual(desk.say("tell " + page_line(page)), "new")
        told = joined(one.roll(), other.roll())
        self.assertEqual(one.take_in(other) + other.take_in(one), len(pages))
        self.assertIs(one == other, True)
        self.assertIs(one != other, False)
        self.assertEqual((one.roll(), str(one)), (told, str(other)))
        self.assertEqual(desk.say("roll"), " / ".join(roll_lines(told)))
        self.assertEqual(desk.say("unfilled 99999.999"), "-")
        self.assertEqual(desk.say("filled 99999.999"), "world -")
        self.check_back(one)

    def check_back(self, shop):
        """What is taken back is as if it had never been, to the first deed and one more."""
        for k in range(len(shop) - 1, -1, -1):
            elder = shop.elder(k)
            shop.back()
            self.assertEqual((shop.roll(), len(shop)), (elder, k))
        with self.assertRaises(NoStep):
            shop.back()
        self.assertIs(shop == Workshop(shop.base()), True)

    def check_all_painted(self, base, roll, letters):
        self.assertEqual(unfilled(base, roll, END), ())
        self.assertEqual((wrong(base, roll, END), stale(base, roll, END), idle(base, roll, END)), ((), (), []))
        self.assertEqual(tuple(letter for _, letter, _ in painted_at(base, roll, END)), letters)
        names = [section[0] for section in base[0][2]]
        self.assertTrue(all(letters[names.index(name)] == letter for name, letter in sure(base, (), END)))
        # Behind each MOMENT stands what was painted up to it.
        for k in range(len(roll)):
            self.assertEqual(len(painted_at(base, roll, (5, k))), k + 1)


class Grown(unittest.TestCase):
    def test_a_letter_grows(self):
        for chance, base in some_bases(80, 500):
            section = chance.choice(base[0][2])
            high, wide = chance.randint(1, base[0][1]), chance.randint(1, 6)
            self.check_lines(base[0][0], section, high, wide)
            book = grown(base[0], section[0], high, wide)
            self.assertEqual(book_at(base, ((1, 0, "grow", section[0], high, wide),), END), book)
            self.check_begins(base[0], book, section[0])
            self.check_colours(base, book, (1, 0, "grow", section[0], high, wide))

    def check_lines(self, width, section, high, wide):
        """The fewest lines ANEW, with a paper; grown back no more than the first time."""
        lay = bent(section, width)
        paper = fewest_anew(section, lay, high, wide, width)
        self.assertEqual(lets_anew(section, lay, high, wide, paper, width), paper[0])
        other = (section[0], high, wide, section[3])
        self.assertLessEqual(paper[0], len(anew_lines(section, lay, high, wide, bent(other, width))))
        back = fewest_anew(other, paper[1], section[1], section[2], width, max(len(lay), len(paper[1])))
        self.assertLessEqual(back[0], paper[0])
        self.assertEqual(anew_lines(section, lay, high, wide, paper[1]),
                         anew_lines(other, paper[1], section[1], section[2], lay))
        self.assertEqual(fewest_anew(section, lay, section[1], section[2], width)[0], 0)

    def check_begins(self, one, other, name):
        """All SECTIONS ahead begin where they did; from the first one on behind which they are ALIKE all do."""
        names = [section[0] for section in one[2]]
        at = names.index(name)
        rows, others = spread(one), spread(other)
        self.assertEqual(rows[:at], others[:at])
        first = alike_from(one, other)
        same = [row[:3] == like[:3] for row, like in zip(rows, others)]
        if first is None:
            self.assertIs(same[-1], False)
        else:
            k = names.index(first)
            self.assertEqual(same[k:], [True] * (len(names) - k))
            self.assertTrue(k == 0 or not same[k - 1])

    def check_colours(self, base, book, page):
        """Of what was painted in due COLOURS just the TURNED are STALE now."""
        turns = base[3]
        one, other = (tuple((section[0], section[1]) for section in sections) for sections in (base[0][2], book[2]))
        names = [name for name, _ in one]
        pages = paint_pages(base, names, "a" * len(names), colours(turns, tuple(high for _, high in one)))
        roll = tuple(sorted(pages + [(6,) + page[1:]]))
        self.assertEqual(stale(base, roll, (5, 999)), ())
        told = stale(base, roll, END)
        self.assertEqual(tuple(name for name, _ in told), turned(turns, one, other))
        due = dict(zip(names, colours(turns, tuple(high for _, high in other))))
        self.assertTrue(all(due[name] == colour for name, colour in told))
        for name in names:
            ring = turns[class_of(turns, dict(other)[name])][1]
            if class_of(turns, dict(one)[name]) == class_of(turns, dict(other)[name]):
                if shift(turns, one, other, name) % len(ring) == 0:
                    self.assertNotIn(name, turned(turns, one, other))


class Written(unittest.TestCase):
    def test_what_is_written_is_read_as_the_same(self):
        for chance, base in some_bases(60, 600):
            self.assertEqual(read_base(base_lines(base)), base)
            names = [section[0] for section in base[0][2]]
            pages = [(1, k, "guide", name, tuple(sorted(chance.sample("abe", k % 4)))) for k, name in enumerate(names)]
            pages += [(2, 0, "out", names[0]), (3, 0, "put", base[0][2][0], ""), (3, 1, "grow", names[-1], 2, 3),
                      (4, 0, "paint", names[-1], "a", "red"), (4, 1, "scrape", names[-1]), (4, 2, "scrape", names[-1]),
                      (4, 3, "bill", "a", 2), (4, 4, "put", base[0][2][0], "")]
            shop = Workshop(base)
            for page in chance.sample(pages, len(pages)):
                shop.tell(page)
            lines = roll_lines(shop.roll())
            self.assertEqual(read_roll(chance.sample(lines, len(lines)) + lines[:3]), shop.roll())
            again = Workshop(read_base(base_lines(base)))
            for line in lines:
                again.tell(read_page(line))
            self.assertIs(again == shop, True)
            self.assertEqual(str(again), str(shop))
            self.assertEqual([word for _, word in idle(base, shop.roll(), END)], ["void", "twice"])
