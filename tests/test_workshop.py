"""A WORKSHOP: its deeds, what it tells of itself, two that took in one another [81], [82], [83]."""

import unittest
from random import Random

from leftspaces.errors import NoPage, NoStep
from leftspaces.rolls import in_order, is_roll, joined
from leftspaces.texts import roll_lines
from leftspaces.views import book_at
from leftspaces.workshop import Workshop
from tests.refusals import Refusals
from tests.things import ODD, SIXTY, as_lists, cut_or_longer, deep, swapped
from tests.walks import END, TURNS, small_deed, small_walks, stand

ANN = ("ann", 2, 4, ("re", "we"))
DAN = ("dan", 1, 1, ("be",))
BASE = ((9, 5, (ANN,)), (("are", ("p",)), ("we", ("q",))), (("p", "q"),), TURNS)
OTHER_BASE = ((9, 6, (ANN,)),) + BASE[1:]
PUT = (4, 0, "put", DAN, "ann")
GUIDE = (4, 7, "guide", "ann", ("a", "e"))
PAINT = (5, 0, "paint", "ann", "a", "red")
BILLS = tuple((day, 0, "bill", "a", 1) for day in range(61))


def shop(*pages, base=BASE):
    """A WORKSHOP that was told these PAGES."""
    made = Workshop(base)
    for page in pages:
        made.tell(page)
    return made


def shown(workshop):
    """All that a WORKSHOP tells of itself."""
    elders = [workshop.elder(k) for k in range(len(workshop) + 1)]
    return repr((workshop.base(), workshop.roll(), elders, len(workshop), str(workshop)))


class Asks(Refusals):
    """What a test of a WORKSHOP asks."""

    def refuses(self, refusal, field, workshop, deed, *args):
        """A deed is refused, and changes nothing."""
        before = shown(workshop)
        handed = repr(args) if args and not isinstance(args[0], Workshop) else None
        self.check_refused(refusal, [field], deed, *args)
        self.assertEqual(shown(workshop), before)
        if handed is not None:
            self.assertEqual(repr(args), handed)

    def has(self, workshop, roll, deeds):
        self.assertEqual(repr(workshop.roll()), repr(roll))
        self.assertEqual(len(workshop), deeds)
        self.assertIs(is_roll(workshop.roll()), True)


class Made(Asks, unittest.TestCase):
    def test_of_a_base(self):
        made = Workshop(BASE)
        self.has(made, (), 0)
        self.assertEqual(repr(made.base()), repr(BASE))
        self.assertEqual(Workshop(base=BASE).base(), BASE)
        self.assertIs(made.__class__, Workshop)

    def test_each_method_is_its_own(self):
        for name in ("tell", "strike", "take_in", "back", "base", "roll", "elder", "__len__", "__str__", "__eq__", "__ne__"):
            self.assertIn(name, vars(Workshop))
        self.assertEqual(Workshop.__module__, "leftspaces.workshop")

    def test_two_are_apart(self):
        one, other = Workshop(BASE), Workshop(BASE)
        one.tell(PUT)
        self.has(other, (), 0)


class Tell(Asks, unittest.TestCase):
    def test_new(self):
        made = Workshop(BASE)
        self.assertIs(made.tell(GUIDE), True)
        self.has(made, (GUIDE,), 1)
        self.assertIs(made.tell(thing=PUT), True)
        self.has(made, (PUT, GUIDE), 2)

    def test_twice(self):
        made = shop(PUT, GUIDE)
        before = shown(made)
        for page in (PUT, GUIDE):
            self.assertIs(made.tell(page), False)
        self.assertEqual(shown(made), before)

    def test_like_ones_that_are_others(self):
        made = shop(PUT, (4, 0, "put", DAN, ""), (4, 1, "put", DAN, "ann"), (4, 0, "put", ("dan", 1, 2, ("be",)), "ann"))
        self.assertEqual(len(made.roll()), 4)
        self.assertEqual(len(made), 4)

    def test_one_that_would_be_idle(self):
        idle = (0, 0, "out", "zoe")
        self.has(shop(idle), (idle,), 1)

    def test_no_page(self):
        made = shop(PUT)
        for thing in ODD + (0, 1, SIXTY, list(PUT), as_lists(PUT), BASE, (PUT,), deep(PUT, 20, list)):
            self.refuses(NoPage, "kind", made, made.tell, thing)
        for page in (PUT, GUIDE, PAINT, (1, 0, "bill", "a", 1)):
            for thing in cut_or_longer(page, None):
                self.refuses(NoPage, "kind", made, made.tell, thing)
            for thing in swapped(page, True):
                self.refuses(NoPage, "kind", made, made.tell, thing)

    def test_a_truth_is_no_number_though_python_takes_it_for_one(self):
        made = shop((1, 0, "bill", "a", 1))
        for thing in ((True, 0, "bill", "a", 1), (1, False, "bill", "a", 1), (1, 0, "bill", "a", True)):
            self.refuses(NoPage, "kind", made, made.tell, thing)
            self.refuses(NoPage, "none", made, made.strike, thing)

    def test_sixty_and_one_more(self):
        made = shop(*BILLS[:59])
        self.assertIs(made.tell(BILLS[59]), True)
        self.has(made, BILLS[:60], 60)
        self.refuses(NoPage, "many", made, made.tell, BILLS[60])
        self.assertIs(made.tell(BILLS[0]), False)
        self.refuses(NoPage, "kind", made, made.tell, None)
        made.strike(BILLS[30])
        self.assertIs(made.tell(BILLS[60]), True)
        self.has(made, BILLS[:30] + BILLS[31:], 62)


class Strike(Asks, unittest.TestCase):
    def test_out(self):
        made = shop(PUT, GUIDE, PAINT)
        self.assertIsNone(made.strike(GUIDE))
        self.has(made, (PUT, PAINT), 4)
        self.assertIsNone(made.strike(thing=PUT))
        self.has(made, (PAINT,), 5)

    def test_twice(self):
        made = shop(PUT, GUIDE)
        made.strike(PUT)
        self.refuses(NoPage, "none", made, made.strike, PUT)

    def test_told_again(self):
        made = shop(PUT)
        made.strike(PUT)
        self.assertIs(made.tell(PUT), True)
        self.has(made, (PUT,), 3)

    def test_what_is_not_there(self):
        made = shop(PUT)
        self.refuses(NoPage, "none", made, made.strike, GUIDE)
        self.refuses(NoPage, "none", made, made.strike, (4, 0, "put", DAN, ""))
        empty = Workshop(BASE)
        self.refuses(NoPage, "none", empty, empty.strike, PUT)

    def test_what_is_no_page(self):
        made = shop(PUT, GUIDE)
        for thing in ODD + (0, SIXTY, list(PUT), list(GUIDE), as_lists(PUT), (PUT, GUIDE), made.roll()):
            self.refuses(NoPage, "none", made, made.strike, thing)


class TakeIn(Asks, unittest.TestCase):
    def test_new_ones(self):
        one, other = shop(PUT, GUIDE), shop(GUIDE, PAINT, BILLS[0])
        before = shown(other)
        self.assertEqual(one.take_in(other), 2)
        self.has(one, (BILLS[0], PUT, GUIDE, PAINT), 3)
        self.assertEqual(shown(other), before)
        self.assertEqual(one.take_in(other=other), 0)
        self.has(one, (BILLS[0], PUT, GUIDE, PAINT), 3)

    def test_none_is_new(self):
        one = shop(PUT, GUIDE)
        for other in (Workshop(BASE), shop(GUIDE), shop(GUIDE, PUT)):
            before = shown(one)
            told = one.take_in(other)
            self.assertIs(told.__class__, int)
            self.assertEqual(told, 0)
            self.assertEqual(shown(one), before)

    def test_itself(self):
        for made in (Workshop(BASE), shop(PUT, GUIDE), shop(*BILLS[:60])):
            before = shown(made)
            self.assertEqual(made.take_in(made), 0)
            self.assertEqual(shown(made), before)

    def test_one_of_another_base(self):
        one = shop(PUT)
        for other in (Workshop(OTHER_BASE), shop(PUT, base=OTHER_BASE), shop(GUIDE, base=OTHER_BASE)):
            self.refuses(NoPage, "base", one, one.take_in, other)
        self.assertEqual(one.take_in(shop(GUIDE, base=(BASE[0], *BASE[1:]))), 1)

    def test_more_than_sixty(self):
        one = shop(*BILLS[:40])
        self.refuses(NoPage, "many", one, one.take_in, shop(*BILLS[30:61]))
        self.refuses(NoPage, "many", one, one.take_in, shop(*BILLS[40:61]))
        self.assertEqual(one.take_in(shop(*BILLS[30:60])), 20)
        self.has(one, BILLS[:60], 41)
        self.refuses(NoPage, "many", one, one.take_in, shop(BILLS[60]))
        self.assertEqual(one.take_in(shop(*BILLS[:60])), 0)

    def test_another_base_goes_ahead_of_too_many(self):
        one = shop(*BILLS[:60])
        self.refuses(NoPage, "base", one, one.take_in, shop(BILLS[60], base=OTHER_BASE))

    def test_what_it_took_in_is_its_own(self):
        one, other = shop(PUT), shop(GUIDE)
        one.take_in(other)
        other.strike(GUIDE)
        self.has(one, (PUT, GUIDE), 2)
        one.strike(PUT)
        self.has(other, (), 2)
        other.take_in(one)
        one.back()
        one.back()
        self.has(other, (GUIDE,), 3)
        self.has(one, (PUT,), 1)


class Back(Asks, unittest.TestCase):
    def test_each_deed(self):
        made = shop(PUT, GUIDE)
        made.strike(PUT)
        made.take_in(shop(PAINT, BILLS[0], GUIDE))
        self.has(made, (BILLS[0], GUIDE, PAINT), 4)
        for deed, roll in ((("take", (BILLS[0], PAINT)), (GUIDE,)), (("strike", PUT), (PUT, GUIDE)),
                           (("tell", GUIDE), (PUT,)), (("tell", PUT), ())):
            self.assertEqual(repr(made.back()), repr(deed))
            self.has(made, roll, len(made))

    def test_to_the_first_and_one_more(self):
        made = Workshop(BASE)
        self.refuses(NoStep, 0, made, made.back)
        made.tell(PUT)
        made.back()
        self.refuses(NoStep, 0, made, made.back)
        self.refuses(NoStep, 0, made, made.back)
        self.assertEqual(shown(made), shown(Workshop(BASE)))

    def test_as_if_it_had_never_been(self):
        made = shop(PUT, GUIDE)
        before = shown(made)
        for deed in (lambda: made.tell(PAINT), lambda: made.strike(PUT), lambda: made.take_in(shop(PAINT, BILLS[3]))):
            deed()
            made.back()
            self.assertEqual(shown(made), before)

    def test_what_was_no_deed_is_not_taken_back(self):
        made = shop(PUT)
        made.tell(PUT)
        made.take_in(made)
        made.take_in(shop(PUT))
        for deed in (made.tell, made.strike):
            with self.assertRaises(NoPage):
                deed(None)
        self.assertEqual(made.back(), ("tell", PUT))
        self.has(made, (), 0)

    def test_a_strike_taken_back_among_sixty(self):
        made = shop(*BILLS[:60])
        made.strike(BILLS[5])
        made.tell(BILLS[60])
        made.back()
        self.assertEqual(made.back(), ("strike", BILLS[5]))
        self.has(made, BILLS[:60], 60)


class Elder(Asks, unittest.TestCase):
    def test_behind_the_first_deeds(self):
        made = shop(GUIDE, PUT)
        made.strike(GUIDE)
        made.take_in(shop(PAINT))
        for k, roll in enumerate(((), (GUIDE,), (PUT, GUIDE), (PUT,), (PUT, PAINT))):
            self.assertEqual(repr(made.elder(k)), repr(roll))
        self.assertEqual(made.elder(k=4), made.roll())

    def test_below_nought_and_beyond_the_count(self):
        for made in (Workshop(BASE), shop(GUIDE, PUT)):
            for k in (-1, -2, -3, -SIXTY, len(made) + 1, len(made) + 2, 99, SIXTY):
                self.refuses(NoStep, k, made, made.elder, k)
            self.assertEqual(made.elder(0), ())
            self.assertEqual(made.elder(len(made)), made.roll())

    def test_behind_a_deed_taken_back(self):
        made = shop(GUIDE, PUT)
        made.back()
        self.refuses(NoStep, 2, made, made.elder, 2)
        made.tell(PAINT)
        self.assertEqual(made.elder(2), (GUIDE, PAINT))


class Shown(Asks, unittest.TestCase):
    def test_str(self):
        self.assertEqual(str(Workshop(BASE)), "1 -")
        self.assertEqual(str(shop(GUIDE)), "1 4 7 guide ann ae")
        self.assertEqual(str(shop(GUIDE, PUT)), "2 4 0 put dan:1:1:be ann / 4 7 guide ann ae")
        self.assertEqual(str(Workshop(((9, 5, ()),) + BASE[1:])), "0 -")

    def test_str_behind_all_pages(self):
        last = (99999, 999, "put", DAN, "")
        self.assertEqual(str(shop(last)), "2 99999 999 put dan:1:1:be -")
        self.assertEqual(str(shop((1, 0, "out", "ann"))), "0 1 0 out ann")
        # A PAGE that is IDLE puts nothing in.
        self.assertEqual(str(shop((1, 0, "put", ("ann", 1, 1, ("e",)), ""))), "1 1 0 put ann:1:1:e -")

    def test_str_of_small_rolls(self):
        for base, roll, _ in small_walks(200, 820):
            made = shop(*roll, base=base)
            before = shown(made)
            lines = " / ".join(roll_lines(roll)) or "-"
            self.assertEqual(str(made), str(len(book_at(base, roll, END)[2])) + " " + lines)
            self.assertEqual(shown(made), before)

    def test_len_is_how_many_deeds(self):
        made = Workshop(BASE)
        self.assertEqual(len(made), 0)
        made.tell(PUT)
        made.tell(PUT)
        made.strike(PUT)
        self.assertEqual(len(made), 2)


class Equal(Asks, unittest.TestCase):
    def equal(self, one, other, expected):
        self.assertIs(one == other, expected)
        self.assertIs(one != other, not expected)
        self.assertIs(other == one, expected)
        self.assertIs(other != one, not expected)

    def test_base_and_roll_are_the_same(self):
        self.equal(Workshop(BASE), Workshop((BASE[0], *BASE[1:])), True)
        self.equal(shop(PUT, GUIDE), shop(GUIDE, PUT), True)
        made = shop(PUT, GUIDE)
        self.equal(made, made, True)

    def test_by_other_deeds(self):
        made = shop(PAINT, GUIDE, PUT)
        made.strike(PAINT)
        self.equal(made, shop(PUT, GUIDE), True)

    def test_another_base_or_another_roll(self):
        self.equal(Workshop(BASE), Workshop(OTHER_BASE), False)
        self.equal(shop(PUT), shop(PUT, base=OTHER_BASE), False)
        self.equal(shop(PUT), shop(GUIDE), False)
        self.equal(shop(PUT), Workshop(BASE), False)

    def test_no_other_thing(self):
        made = shop(PUT)
        for thing in ODD + (0, 1, SIXTY, BASE, made.roll(), (made.base(), made.roll()), str(made), deep(PUT, 20, list)):
            self.equal(made, thing, False)


class Two(Asks, unittest.TestCase):
    def test_that_took_in_one_another(self):
        one, other = shop(PUT, GUIDE), shop(PAINT, GUIDE)
        self.assertIs(one == other, False)
        self.assertEqual((one.take_in(other), other.take_in(one)), (1, 1))
        self.assertIs(one == other, True)
        self.assertEqual(str(one), str(other))
        one.strike(PUT)
        self.assertIs(one == other, False)

    def test_in_any_order_and_told_late(self):
        chance = Random(83)
        for base, roll, _ in small_walks(100, 83):
            parts = [[], [], []]
            for page in roll + roll[:5]:
                chance.choice(parts).append(page)
            shops = [shop(*chance.sample(part, len(part)), base=base) for part in parts]
            for _ in range(2):
                for one, other in chance.sample([(one, other) for one in shops for other in shops], 9):
                    one.take_in(other)
            for one in shops:
                self.assertEqual(repr(one.roll()), repr(roll))
                self.assertIs(one == shops[0], True)
                self.assertEqual(str(one), str(shops[0]))


class Walked(Asks, unittest.TestCase):
    """Deeds as they come, beside a plain list of ROLLS."""

    def test_deeds_as_they_come(self):
        chance = Random(81)
        for _ in range(60):
            made, rolls, deeds = Workshop(BASE), [()], []
            for _ in range(chance.randint(0, 40)):
                self.deed(chance, made, rolls, deeds)
                self.assertEqual(repr([made.elder(k) for k in range(len(rolls))]), repr(rolls))
                self.has(made, rolls[-1], len(deeds))

    def deed(self, chance, made, rolls, deeds):
        kind = chance.choice(("tell", "tell", "tell", "strike", "take", "back"))
        page = (chance.randint(0, 2), 0) + small_deed(chance, chance.choice(("ann", "bob")))
        if kind == "tell":
            new = page not in rolls[-1]
            self.assertIs(made.tell(page), new)
            after = [("tell", page)] * new
        elif kind == "strike":
            there = list(rolls[-1])
            page = chance.choice(there or [page])
            after = [("strike", page)] * bool(there)
            if there:
                made.strike(page)
            else:
                self.refuses(NoPage, "none", made, made.strike, page)
        elif kind == "take":
            pages = {page, *rolls[-1][:2], *((9, k, "out", "ann") for k in range(chance.randint(0, 3)))}
            new = tuple(sorted(pages - set(rolls[-1]), key=stand))
            self.assertEqual(made.take_in(shop(*pages)), len(new))
            after = [("take", new)] * bool(new)
        elif deeds:
            self.assertEqual(repr(made.back()), repr(deeds.pop()))
            rolls.pop()
            return
        else:
            self.refuses(NoStep, 0, made, made.back)
            return
        for word, told in after:
            deeds.append((word, told))
            gone = [other for other in rolls[-1] if other != told] if word == "strike" else list(rolls[-1])
            come = {"tell": [told], "take": list(told), "strike": []}[word]
            rolls.append(tuple(sorted(gone + come, key=stand)))

    def test_what_is_told_may_be_handed_in_again(self):
        one, other = shop(PUT, GUIDE), shop(PAINT)
        one.take_in(other)
        self.assertEqual(joined(one.roll(), other.roll()), one.roll())
        again = Workshop(one.base())
        self.assertEqual([again.tell(page) for page in one.roll()], [True] * 3)
        self.assertIs(again == one, True)
        self.assertEqual(in_order(list(one.elder(2))), (PUT, GUIDE))
