"""A DESK: rows, and what they are answered with [84], [85]."""

import unittest
from random import Random

from leftspaces.desk import Desk
from leftspaces.errors import NoPage, NoRow, NoStep
from leftspaces.states import filled, stale, sure, unfilled, wrong
from leftspaces.texts import base_lines, page_line, roll_lines, section_word
from leftspaces.views import bill_at, book_at, idle, marks_at, painted_at
from leftspaces.workshop import Workshop
from tests.filling import is_world
from tests.lines import BASE_LINES, ODD_WORDS, bad_in_base, with_words_otherwise
from tests.refusals import Refusals
from tests.things import SIXTY
from tests.walks import TURNS, small_walks

ANN = ("ann", 2, 4, ("re", "we"))
BOB = ("bob", 1, 2, ("e", "we"))
CAT = ("cat", 3, 1, ("e",))
# ann can be a, bob h, as "we" stands behind them; cat b, h, m, w.
BASE = ((9, 5, (ANN, BOB, CAT)), (("are", ("p",)), ("be", ("q",)), ("he", ("p",)), ("me", ("q",)), ("we", ("q",))),
        (("p", "q"),), TURNS)
BASE_ROW = ("base book 9 5 / section ann:2:4:re,we / section bob:1:2:e,we / section cat:3:1:e / word are p / word be q / "
            "word he p / word me q / word we q / follow p q / turn 1 red,blue / turn 3 green,gold,green")
SMALL_ROW = "base book 1 1 / turn 1 red"
MOMENT_WORDS = ("book", "marks", "painted", "bill", "idle", "unfilled", "sure", "wrong", "stale", "filled")
PUT, GUIDE = "4 0 put dan:1:1:be ann", "4 7 guide ann ae"
OTHERS = ("tell " + PUT, "strike " + PUT, "back", "count", "roll", "elder 0") + tuple(
    word + " 99999.999" for word in MOMENT_WORDS)


def desk(*rows, base=BASE_ROW):
    """A DESK that was told a BASE, and these rows."""
    made = Desk()
    for row in (base, *rows):
        made.say(row)
    return made


class Asks(Refusals):
    """What a test of a DESK asks."""

    def says(self, made, row, answer):
        told = made.say(row)
        self.assertIs(told.__class__, str)
        self.assertEqual(told, answer, row)
        self.assertEqual(made.say(row=row) if row.split(" ")[0] in MOMENT_WORDS else answer, answer)

    def refuses(self, made, *rows):
        """Rows that are none, and change nothing."""
        for row in rows:
            before = [made.say(asked) for asked in ("count", "roll")]
            self.check_refused(NoRow, [row], made.say, row)
            self.assertEqual([made.say(asked) for asked in ("count", "roll")], before)


class Base(Asks, unittest.TestCase):
    def test_a_new_workshop(self):
        self.says(Desk(), BASE_ROW, "ok")
        self.says(Desk(), SMALL_ROW, "ok")
        made = desk()
        self.says(made, "count", "0")
        self.says(made, "book 0.0", "ann:2:4:re,we bob:1:2:e,we cat:3:1:e")

    def test_in_the_place_of_one_that_is_there(self):
        made = desk("tell " + PUT)
        self.says(made, SMALL_ROW, "ok")
        self.says(made, "count", "0")
        self.says(made, "roll", "-")
        self.says(made, "book 99999.999", "-")
        self.says(made, BASE_ROW, "ok")
        self.says(made, "book 99999.999", "ann:2:4:re,we bob:1:2:e,we cat:3:1:e")

    def test_only_base_can_stand_ahead_of_the_first_one(self):
        for row in OTHERS:
            made = Desk()
            self.check_refused(NoRow, [row], made.say, row)
            self.says(made, SMALL_ROW, "ok")
        made = Desk()
        self.check_refused(NoRow, ["base book 9 5"], made.say, "base book 9 5")
        self.check_refused(NoRow, ["count"], made.say, "count")

    def test_lines_that_write_none(self):
        made = desk("tell " + PUT)
        self.refuses(made, "base", "base /", "base / / /", "base book 9 5", "base turn 1 red", "base turn 1 red / book 9 5",
                     "base book 9 5 turn 1 red", "base book 9 5/turn 1 red", "base book 9 5 /turn 1 red",
                     "base book 9 5 / turn 2 red", "base book 9 5 / turn 1 red /", "base / book 9 5 / turn 1 red",
                     "base book 9 5 / / turn 1 red", "base book 9 5 // turn 1 red", "base book 0 5 / turn 1 red",
                     "base book 9 5 / turn 1 red / section ann:1:1:x", "base book 9 5 / section ann:6:1:x / turn 1 red",
                     "base book 1000000000 5 / turn 1 red", "base book 9 5 / turn 1 red red", "base section x",
                     "base book +9 5 / turn 1 red", "base book 09 5 / turn 1 red", "base " + PUT)

    def test_void_words(self):
        made = desk()
        self.refuses(made, "base ", " " + SMALL_ROW, SMALL_ROW + " ", "base  book 1 1 / turn 1 red",
                     "base book 1 1  / turn 1 red", "base book 1 1 /  turn 1 red", "base book 1 1 /  / turn 1 red")

    def test_each_base_as_it_is_written(self):
        for base, _, _ in small_walks(100, 840):
            made = desk(base="base " + " / ".join(base_lines(base)))
            self.says(made, "book 0.0", " ".join(section_word(section) for section in base[0][2]) or "-")

    def test_a_line_otherwise(self):
        made = desk()
        found = set()
        for row, line in enumerate(BASE_LINES):
            for text in with_words_otherwise(line):
                lines = BASE_LINES[:row] + [text] + BASE_LINES[row + 1:]
                asked = "base " + " / ".join(lines)
                found.add(bad_in_base(lines) is None)
                if bad_in_base(lines) is None:
                    self.assertEqual(made.say(asked), "ok")
                else:
                    self.check_refused(NoRow, [asked], made.say, asked)
        self.assertEqual(found, {True, False})


class Tell(Asks, unittest.TestCase):
    def test_new_and_there(self):
        made = desk()
        self.says(made, "tell " + GUIDE, "new")
        self.says(made, "tell " + GUIDE, "there")
        self.says(made, "tell " + PUT, "new")
        self.says(made, "count", "2")
        self.says(made, "roll", PUT + " / " + GUIDE)

    def test_sixty_and_one_more(self):
        made = desk(*[f"tell {day} 0 bill a 1" for day in range(60)])
        before = made.say("roll")
        self.check_refused(NoPage, ["many"], made.say, "tell 60 0 bill a 1")
        self.says(made, "tell 0 0 bill a 1", "there")
        self.refuses(made, "tell 60 0 bill a")
        self.assertEqual((made.say("count"), made.say("roll")), ("60", before))

    def test_no_page(self):
        made = desk("tell " + PUT)
        for line in ("", " ", "4", "4 0", "4 0 put", "4 0 put dan:1:1:be", "4 0 put dan:1:1:be ann x", "4  0 out ann",
                     "4 0 out ann ", " 4 0 out ann", "+4 0 out ann", "04 0 out ann", "4 00 out ann", "100000 0 out ann",
                     "4 1000 out ann", "-4 0 out ann", "4 0 guide ann ea", "4 0 guide ann", "4 0 grow ann 0 1",
                     "4 0 grow ann 1000000000 1", "4 0 bill a 1000000000", "4 0 bill a 01", "4 0 out ann / 5 0 out ann",
                     "4.0 out ann", "4 0 in ann", "book 9 5"):
            self.refuses(made, "tell " + line, "strike " + line)
        self.refuses(made, "tell", "strike")


class Strike(Asks, unittest.TestCase):
    def test_ok(self):
        made = desk("tell " + PUT, "tell " + GUIDE)
        self.says(made, "strike " + PUT, "ok")
        self.says(made, "roll", GUIDE)
        self.says(made, "count", "3")

    def test_what_is_not_there(self):
        made = desk("tell " + PUT)
        self.check_refused(NoPage, ["none"], made.say, "strike " + GUIDE)
        made.say("strike " + PUT)
        self.check_refused(NoPage, ["none"], made.say, "strike " + PUT)
        self.says(made, "count", "2")


class Back(Asks, unittest.TestCase):
    def test_its_word_and_the_page(self):
        made = desk("tell " + PUT, "tell " + GUIDE, "strike " + PUT)
        self.says(made, "back", "strike " + PUT)
        self.says(made, "back", "tell " + GUIDE)
        self.says(made, "back", "tell " + PUT)
        self.check_refused(NoStep, [0], made.say, "back")
        self.says(made, "roll", "-")

    def test_what_was_no_deed(self):
        made = desk("tell " + PUT, "tell " + PUT, "roll", "unfilled 9.9")
        self.says(made, "back", "tell " + PUT)
        self.check_refused(NoStep, [0], made.say, "back")


class Elder(Asks, unittest.TestCase):
    def test_lines(self):
        made = desk("tell " + GUIDE, "tell " + PUT, "strike " + GUIDE)
        for k, answer in enumerate(("-", GUIDE, PUT + " / " + GUIDE, PUT)):
            self.says(made, f"elder {k}", answer)

    def test_above_the_count(self):
        made = desk("tell " + GUIDE)
        for k in (2, 3, 10, 999999999):
            self.check_refused(NoStep, [k], made.say, f"elder {k}")
        self.says(made, "elder 1", GUIDE)

    def test_no_number(self):
        made = desk("tell " + GUIDE)
        self.refuses(made, "elder", "elder ", "elder -1", "elder -0", "elder +1", "elder 01", "elder 00", "elder a", "elder 1.0",
                     "elder 1 ", "elder  1", "elder 1 1", "elder 1_0", "elder 1000000000", "elder 0000000001",
                     "elder " + str(SIXTY), "elder -", "elder 0.0", "elder " + "9" * 3000)


class Moments(Asks, unittest.TestCase):
    def test_written_with_a_sign_or_a_nought_ahead(self):
        made = desk("tell " + PUT)
        for word in MOMENT_WORDS:
            for moment in ("", "4", "4.", ".7", ".", "4.7.1", "4 7", "4,7", "+4.7", "-4.7", "4.+7", "4.-7", "04.7", "4.07",
                           "4.00", "00.0", "100000.0", "99999.1000", "-0.0", "4.7 ", " 4.7", "4 .7", "4. 7", "a.b", "4.7 4.7",
                           "1000000000.0", "0.1000000000", "4.7 x", "(4,7)", "0x1.0", "1e1.0", "4..7"):
                self.refuses(made, word + " " + moment)
            self.refuses(made, word)

    def test_the_first_and_the_last_one(self):
        made = desk("tell 0 0 out bob", "tell 99999 999 out ann")
        self.says(made, "unfilled 0.0", "ann cat")
        self.says(made, "unfilled 99999.998", "ann cat")
        self.says(made, "unfilled 99999.999", "cat")

    def test_at_and_beside_those_of_pages(self):
        made = desk("tell " + PUT)
        for moment, answer in (("3.999", "ann bob cat"), ("4.0", "dan ann bob cat"), ("4.1", "dan ann bob cat"),
                               ("40.0", "dan ann bob cat")):
            self.says(made, "unfilled " + moment, answer)


class Views(Asks, unittest.TestCase):
    def test_book(self):
        made = desk("tell " + PUT, "tell 5 0 out bob", "tell 6 0 grow cat 5 9")
        self.says(made, "book 4.0", "dan:1:1:be ann:2:4:re,we bob:1:2:e,we cat:3:1:e")
        self.says(made, "book 5.0", "dan:1:1:be ann:2:4:re,we cat:3:1:e")
        self.says(made, "book 6.0", "dan:1:1:be ann:2:4:re,we cat:5:9:e")

    def test_marks(self):
        made = desk("tell " + GUIDE, "tell 5 0 guide bob h", "tell 6 0 guide ann -")
        self.says(made, "marks 4.0", "ann:- bob:- cat:-")
        self.says(made, "marks 4.7", "ann:ae bob:- cat:-")
        self.says(made, "marks 5.0", "ann:ae bob:h cat:-")
        self.says(made, "marks 6.0", "ann:- bob:h cat:-")

    def test_painted(self):
        made = desk("tell 5 0 paint cat z red", "tell 6 0 paint ann a pink", "tell 7 0 scrape cat")
        for moment, answer in (("4.0", "-"), ("5.0", "cat:z:red"), ("6.0", "ann:a:pink cat:z:red"), ("7.0", "ann:a:pink")):
            self.says(made, "painted " + moment, answer)

    def test_bill(self):
        made = desk("tell 5 0 bill z 9", "tell 5 1 bill a 0", "tell 6 0 bill z 10")
        for moment, answer in (("4.0", "-"), ("5.0", "z:9"), ("5.1", "a:0 z:9"), ("6.0", "a:0 z:10")):
            self.says(made, "bill " + moment, answer)

    def test_idle(self):
        made = desk("tell 5 0 out zoe", "tell 5 1 scrape ann", "tell 6 0 bill z 10")
        for moment, answer in (("4.0", "0"), ("5.0", "1"), ("5.1", "2"), ("6.0", "2")):
            self.says(made, "idle " + moment, answer)

    def test_of_no_sections(self):
        made = desk(base=SMALL_ROW)
        for word in MOMENT_WORDS[:-1]:
            self.says(made, word + " 0.0", "0" if word == "idle" else "-")
        self.says(made, "filled 0.0", "world -")


class Left(Asks, unittest.TestCase):
    def test_unfilled(self):
        made = desk("tell 5 0 paint bob h red", "tell 6 0 paint ann a red", "tell 7 0 paint cat b red")
        for moment, answer in (("4.0", "ann bob cat"), ("5.0", "ann cat"), ("6.0", "cat"), ("7.0", "-")):
            self.says(made, "unfilled " + moment, answer)

    def test_sure(self):
        made = desk("tell 5 0 paint bob h red", "tell 6 0 paint ann a red")
        for moment, answer in (("4.0", "ann:a bob:h"), ("5.0", "ann:a"), ("6.0", "-")):
            self.says(made, "sure " + moment, answer)

    def test_wrong(self):
        made = desk("tell 5 0 paint bob b red", "tell 6 0 paint ann z red", "tell 7 0 guide bob h")
        for moment, answer in (("4.0", "-"), ("5.0", "bob:row"), ("6.0", "ann:word bob:row"), ("7.0", "ann:word bob:guide")):
            self.says(made, "wrong " + moment, answer)

    def test_stale(self):
        made = desk("tell 5 0 paint ann a red", "tell 6 0 paint bob h red", "tell 7 0 paint cat b pink")
        for moment, answer in (("5.0", "-"), ("6.0", "bob:blue"), ("7.0", "bob:blue cat:green")):
            self.says(made, "stale " + moment, answer)

    def test_filled(self):
        made = desk("tell 5 0 bill m 1", "tell 6 0 bill a 0", "tell 7 0 paint ann a red", "tell 8 0 bill a 1",
                    "tell 8 1 paint bob h red", "tell 8 2 paint cat m red")
        for moment, answer in (("5.0", "world ahm"), ("6.0", "no"), ("7.0", "over"), ("8.0", "world hm"), ("8.1", "world m"),
                               ("8.2", "world -")):
            self.says(made, "filled " + moment, answer)


class NoRows(Asks, unittest.TestCase):
    """Rows that are none of these."""

    def test_other_words(self):
        made = desk("tell " + PUT)
        self.refuses(made, "", " ", "  ", "x", "Base", "TELL " + PUT, "tells " + PUT, "backs", "len", "take_in", "take " + PUT,
                     "moment", "page " + PUT, "nothing", "number 1", "0", "-", "/", "elders 0", "state 4.0", PUT,
                     "book 9 5 / turn 1 red")
        for word in ODD_WORDS:
            if word != "book":
                self.refuses(made, word, word + " 4.0")

    def test_words_too_many(self):
        made = desk("tell " + PUT)
        self.refuses(made, *[row + more for row in OTHERS for more in (" x", " 0", " ", " /", " -", "\t")])

    def test_words_too_few(self):
        made = desk("tell " + PUT)
        self.refuses(made, *[word for word in ("base", "tell", "strike", "elder") + MOMENT_WORDS])

    def test_void_words(self):
        made = desk("tell " + PUT)
        self.refuses(made, *[" " + row for row in OTHERS], *[row.replace(" ", "  ", 1) for row in OTHERS if " " in row])

    def test_the_row_itself(self):
        made = desk()
        row = "".join(["no", " ", "row"])
        with self.assertRaises(NoRow) as held:
            made.say(row)
        self.assertIs(held.exception.row, row)

    def test_ahead_of_all_else(self):
        # A WORKSHOP would refuse these, too, were they rows.
        made = desk(*[f"tell {day} 0 bill a 1" for day in range(60)])
        self.refuses(made, "tell 61 0 bill a", "strike 61 0 bill a 1 1", "elder -1", "elder 61 0")
        made = desk()
        self.refuses(made, "back 1", "back ", "elder -1")

    def test_large(self):
        made = desk()
        self.refuses(made, "x" * 4000, " " * 4000, "count" + " x" * 1990, "/ " * 1999 + "/", "base " + "/ " * 1990 + "/",
                     "elder " + "1" * 3990)


class Changes(Asks, unittest.TestCase):
    def test_what_only_asks_changes_nothing(self):
        for base, roll, moment in small_walks(40, 841):
            made = desk(*["tell " + page_line(page) for page in roll], base="base " + " / ".join(base_lines(base)))
            rows = ["count", "roll", "elder 0"] + [f"{word} {moment[0]}.{moment[1]}" for word in MOMENT_WORDS]
            first = [made.say(row) for row in rows]
            self.assertEqual([made.say(row) for row in reversed(rows)][::-1], first)

    def test_two_desks_are_apart(self):
        one, other = desk("tell " + PUT), desk()
        self.says(other, "roll", "-")
        other.say("tell " + GUIDE)
        self.says(one, "roll", PUT)
        fresh = Desk()
        self.check_refused(NoRow, ["count"], fresh.say, "count")


class Small(Asks, unittest.TestCase):
    """Rows beside a WORKSHOP, asked itself."""

    def test_all_rows(self):
        chance = Random(84)
        for base, roll, moment in small_walks(150, 842):
            made, shop = desk(base="base " + " / ".join(base_lines(base))), Workshop(base)
            for page in chance.sample(roll, len(roll)):
                self.says(made, "tell " + page_line(page), "new" if shop.tell(page) else "there")
                if chance.random() < 0.2:
                    shop.strike(page)
                    self.says(made, "strike " + page_line(page), "ok")
                if chance.random() < 0.2:
                    word, page = shop.back()
                    self.says(made, "back", word + " " + page_line(page))
            self.says(made, "count", str(len(shop)))
            self.says(made, "roll", " / ".join(roll_lines(shop.roll())) or "-")
            k = chance.randint(0, len(shop))
            self.says(made, f"elder {k}", " / ".join(roll_lines(shop.elder(k))) or "-")
            self.views(made, (base, shop.roll(), moment), "{}.{}".format(*moment))

    def views(self, made, asked, moment):
        lists = {
            "book": map(section_word, book_at(*asked)[2]),
            "marks": [f"{name}:{''.join(guide or '-')}" for name, guide in marks_at(*asked)],
            "painted": map(":".join, painted_at(*asked)),
            "bill": [f"{letter}:{many}" for letter, many in bill_at(*asked)],
            "unfilled": unfilled(*asked),
            "sure": map(":".join, sure(*asked)),
            "wrong": map(":".join, wrong(*asked)),
            "stale": map(":".join, stale(*asked)),
        }
        for word, words in lists.items():
            self.says(made, word + " " + moment, " ".join(words) or "-")
        self.says(made, "idle " + moment, str(len(idle(*asked))))
        word, told = filled(*asked)
        self.says(made, "filled " + moment, word + " " + ("".join(told) or "-") if word == "world" else word)

    def test_a_world_told_is_one(self):
        made = desk("tell 5 0 bill b 1")
        answer = made.say("filled 9.9").split(" ")
        self.assertEqual(answer[0], "world")
        self.assertTrue(is_world((("a",), ("h",), ("b", "h", "m", "w")), (("b", 1),), tuple(answer[1])))
