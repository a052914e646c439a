"""The interface: names, arguments, kinds of values; what is handed in stays as it was [2], [8]."""

import copy
import importlib
import inspect
import unittest

from leftspaces.errors import LackError, LeftError
from tests.things import SIXTY

INTERFACE = {
    "kinds": {"is_number": "(thing)", "is_letter": "(thing)", "is_word": "(thing)", "is_section": "(thing)",
              "is_book": "(thing)"},
    "rooms": {"begins": "(section, i)", "room": "(section, i, width=30)"},
    "lays": {"line_words": "(section, lay, i)"},
    "laychecker": {"lets_lay": "(section, thing, width=30)"},
    "bending": {"bent": "(section, width=30)"},
    "bentchecker": {"lets_bent": "(section, thing, width=30)"},
    "signs": {"many_signs": "(section)", "place_of": "(section, lay, k)", "sign_at": "(section, lay, line, column)",
              "lines_text": "(section, lay, width=30)"},
    "spreading": {"spread": "(book, line=0)", "sheets_of": "(book)"},
    "patterns": {"is_pattern": "(thing)", "fits": "(pattern, word)"},
    "lexicons": {"is_lexicon": "(thing)", "is_follow": "(thing)", "sorts_of": "(lexicon, word)",
                 "words_for": "(lexicon, pattern, guide=None)"},
    "rows": {"is_row": "(thing)"},
    "reading": {"can": "(lexicon, follow, row)", "reading_with": "(lexicon, follow, row, letter)"},
    "readingchecker": {"lets_reading": "(lexicon, follow, row, thing)"},
    "barrierchecker": {"lets_barrier": "(lexicon, follow, row, letter, thing)"},
    "slips": {"slips_of": "(row, tried)", "fewest_slips": "(lexicon, follow, row)"},
    "slipchecker": {"lets_slips": "(lexicon, follow, row, thing)"},
    "cans": {"are_cans": "(thing)", "is_bill": "(thing)"},
    "worlds": {"world": "(cans, bill)"},
    "worldchecker": {"lets_world": "(cans, bill, thing)"},
    "nochecker": {"lets_no": "(cans, bill, thing)"},
    "ranges": {"most_of": "(cans, bill, letter)", "least_of": "(cans, bill, letter)"},
    "rangechecker": {"lets_most": "(cans, bill, letter, thing)", "lets_least": "(cans, bill, letter, thing)"},
    "repainting": {"fewest_repainted": "(cans, bill, painted)"},
    "repaintchecker": {"lets_repainted": "(cans, bill, painted, thing)"},
    "joining": {"joined_bills": "(one, other)"},
    "canbe": {"left_by": "(cans, bill, space, letter)", "can_be": "(cans, bill, space)",
              "world_with": "(cans, bill, space, letter)"},
    "changing": {"with_section": "(book, section, ahead)", "without_section": "(book, name)",
                 "grown": "(book, name, high, wide)", "alike_from": "(one, other)"},
    "verdicts": {"verdict": "(lexicon, follow, row, letter)"},
    "pages": {"is_moment": "(thing)", "is_page": "(thing)", "is_base": "(thing)", "moment_of": "(page)"},
    "rolls": {"is_roll": "(thing)", "in_order": "(pages)", "joined": "(one, other)", "up_to": "(roll, moment)"},
    "states": {"row_of": "(base, roll, moment, name)", "unfilled": "(base, roll, moment)",
               "sure": "(base, roll, moment)", "wrong": "(base, roll, moment)", "stale": "(base, roll, moment)",
               "what_is_left": "(base, roll, moment)", "filled": "(base, roll, moment)"},
    "views": {"book_at": "(base, roll, moment)", "marks_at": "(base, roll, moment)", "painted_at": "(base, roll, moment)",
              "bill_at": "(base, roll, moment)", "idle": "(base, roll, moment)"},
    "texts": {"section_word": "(section)", "page_line": "(page)", "roll_lines": "(roll)", "base_lines": "(base)"},
    "pagereadings": {"read_page": "(text)", "read_roll": "(lines)", "read_base": "(lines)"},
    "anew": {"anew_lines": "(section, lay, high, wide, newer)",
             "fewest_anew": "(section, lay, high, wide, width=30, most=None)"},
    "anewchecker": {"lets_anew": "(section, lay, high, wide, thing, width=30, most=None)"},
    "turns": {"is_turns": "(thing)", "class_of": "(turns, high)", "colours": "(turns, highs)"},
    "parting": {"sums": "(turns, highs)", "offsets": "(turns, stretches)",
                "stretch_colours": "(turns, highs, offset)"},
    "shifts": {"turned": "(turns, one, other)", "shift": "(turns, one, other, name)"},
    "offsetchecker": {"lets_offsets": "(turns, stretches, thing)"},
}
CLASSES = {
    "workshop": ("Workshop", "(base)", {
        "tell": "(self, thing)", "strike": "(self, thing)", "take_in": "(self, other)", "back": "(self)",
        "base": "(self)", "roll": "(self)", "elder": "(self, k)", "__len__": "(self)", "__str__": "(self)",
        "__eq__": "(self, other)", "__ne__": "(self, other)"}),
    "desk": ("Desk", "()", {"say": "(self, row)"}),
}
ERRORS = {
    "LeftError": None, "LackError": None,
    "NoPaper": "(word, at)", "NoLay": "(word)", "NoReading": "(paper)", "NoWorld": "(paper)", "NoPage": "(word)",
    "NoText": "(row, word)", "NoRow": "(row)", "NoName": "(name)", "NoPlace": "(place)", "NoStep": "(number)",
}
ANN = ("ann", 3, 4, ("nn", "was", "old"))
BOOK = (30, 20, (ANN,))
TURNS = ((1, ("red", "blue")), (3, ("green",)))
LEXICON = (("ann", ("name",)), ("inn", ("house", "name")), ("was", ("act",)))
FOLLOW = (("name", "act"),)
ROW = (("a", "e"), ("nn", "w?s"))
LAY = (1, 2, 3)
CANS = (("a", "e"), ("a",), ("a", "i"))
BILL = (("a", 2), ("e", 1))
BASE = (BOOK, LEXICON, FOLLOW, TURNS)
MOMENT = (5, 0)
PAGE = (4, 0, "put", ("bob", 1, 2, ("ob",)), "ann")
ROLL = (PAGE, (4, 1, "guide", "ann", ("a", "e")), (5, 0, "paint", "ann", "z", "blue"), (6, 0, "bill", "a", 2))
ODD = [1, [2], None]
CALLS = (
    ("kinds", "is_number", (SIXTY,), bool), ("kinds", "is_letter", ("a",), bool), ("kinds", "is_word", ("ab",), bool),
    ("kinds", "is_section", (ANN,), bool), ("kinds", "is_book", (BOOK,), bool),
    ("kinds", "is_book", ([[1], ["a"]],), bool),
    ("rooms", "begins", (ANN, 0), int), ("rooms", "room", (ANN, 9, 3), int),
    ("lays", "line_words", (ANN, (3, 3, 3), 0), tuple),
    ("lays", "line_words", (ANN, (3, 3, 3), -1), None), ("bending", "bent", (ANN, 9), tuple),
    ("bending", "bent", (ANN, 2), None),
    ("laychecker", "lets_lay", (ANN, LAY, 9), int), ("laychecker", "lets_lay", (ANN, ODD, 9), None),
    ("bentchecker", "lets_bent", (ANN, LAY, 9), int), ("bentchecker", "lets_bent", (ANN, ODD, 9), None),
    ("signs", "many_signs", (ANN,), int), ("signs", "place_of", (ANN, LAY, 3), tuple),
    ("signs", "place_of", (ANN, LAY, 99), None), ("signs", "sign_at", (ANN, LAY, 0, 4), int),
    ("signs", "sign_at", (ANN, LAY, -1, SIXTY), type(None)), ("signs", "lines_text", (ANN, LAY, 9), tuple),
    ("spreading", "spread", (BOOK, SIXTY), tuple), ("spreading", "sheets_of", (BOOK,), int),
    ("patterns", "is_pattern", ("w?s",), bool), ("patterns", "is_pattern", (ODD,), bool),
    ("patterns", "fits", ("w?s", "was"), bool),
    ("lexicons", "is_lexicon", (LEXICON,), bool), ("lexicons", "is_lexicon", ([["ann", ["name"]]],), bool),
    ("lexicons", "is_follow", (FOLLOW,), bool), ("lexicons", "is_follow", ([["name", "act"]],), bool),
    ("lexicons", "sorts_of", (LEXICON, "inn"), tuple), ("lexicons", "sorts_of", (LEXICON, "on"), tuple),
    ("lexicons", "words_for", (LEXICON, "?n", ("a", "i")), tuple), ("lexicons", "words_for", (LEXICON, "???"), tuple),
    ("rows", "is_row", (ROW,), bool), ("rows", "is_row", ([["a"], ["nn"]],), bool),
    ("reading", "can", (LEXICON, FOLLOW, ROW), tuple), ("reading", "reading_with", (LEXICON, FOLLOW, ROW, "a"), tuple),
    ("reading", "reading_with", (LEXICON, FOLLOW, ROW, "i"), None),
    ("readingchecker", "lets_reading", (LEXICON, FOLLOW, ROW, (("ann", "name"), ("was", "act"))), bool),
    ("readingchecker", "lets_reading", (LEXICON, FOLLOW, ROW, ODD), None),
    ("barrierchecker", "lets_barrier", (LEXICON, FOLLOW, ROW, "i", ((), ())), bool),
    ("barrierchecker", "lets_barrier", (LEXICON, FOLLOW, ROW, "a", ODD), None),
    ("slips", "slips_of", (ROW, (("ann", "name"), ("was", "act"))), int),
    ("slips", "fewest_slips", (LEXICON, FOLLOW, ROW), tuple), ("slips", "fewest_slips", (LEXICON, (), ROW), None),
    ("slipchecker", "lets_slips", (LEXICON, FOLLOW, ROW, ODD), None),
    ("slipchecker", "lets_slips", (LEXICON, FOLLOW, ROW, (0, (("ann", "name"), ("was", "act")), ((0, 0, 0),) * 2)), bool),
    ("ranges", "most_of", (CANS, BILL, "i"), tuple), ("ranges", "least_of", (CANS, BILL, "i"), tuple),
    ("ranges", "most_of", (CANS, (("a", 0),), "i"), None), ("ranges", "least_of", (CANS, (("a", 0),), "i"), None),
    ("rangechecker", "lets_most", (CANS, (), "i", (("e", "a", "i"), ("few", ("i",)))), int),
    ("rangechecker", "lets_most", (CANS, BILL, "i", ODD), None),
    ("rangechecker", "lets_least", (CANS, (), "i", (("e", "a", "a"), None)), int),
    ("rangechecker", "lets_least", (CANS, BILL, "i", ODD), None),
    ("repainting", "fewest_repainted", (CANS, BILL, ("a", None, "z")), tuple),
    ("repainting", "fewest_repainted", (CANS, (("a", 0),), ("a", None, "z")), None),
    ("repaintchecker", "lets_repainted", (CANS, (), (None,) * 3, (0, ("e", "a", "i"), ((0,) * 3, ()))), int),
    ("repaintchecker", "lets_repainted", (CANS, BILL, (None,) * 3, ODD), None),
    ("cans", "are_cans", (CANS,), bool), ("cans", "are_cans", ([["a"]],), bool),
    ("cans", "is_bill", (BILL,), bool), ("cans", "is_bill", ([["a", 1]],), bool),
    ("worlds", "world", (CANS, BILL), tuple), ("worlds", "world", (CANS, (("z", 1),)), tuple),
    ("worldchecker", "lets_world", (CANS, BILL, ("e", "a", "a")), bool),
    ("worldchecker", "lets_world", (CANS, BILL, ODD), None),
    ("nochecker", "lets_no", (CANS, (("a", 9),), ("few", ("a",))), bool),
    ("nochecker", "lets_no", (CANS, BILL, ["few", ["a"]]), None),
    ("joining", "joined_bills", (BILL, BILL[1:]), tuple),
    ("canbe", "left_by", (CANS, BILL, 0, "e"), tuple), ("canbe", "left_by", (CANS, BILL, 1, "e"), type(None)),
    ("canbe", "left_by", (CANS, BILL, 3, "e"), None), ("canbe", "can_be", (CANS, BILL, 2), tuple),
    ("canbe", "can_be", (CANS, BILL, -1), None), ("canbe", "world_with", (CANS, BILL, 2, "a"), tuple),
    ("canbe", "world_with", (CANS, BILL, SIXTY, "a"), None),
    ("changing", "with_section", (BOOK, PAGE[3], "ann"), tuple),
    ("changing", "with_section", (BOOK, PAGE[3], "zoe"), None),
    ("changing", "without_section", (BOOK, "ann"), tuple), ("changing", "without_section", (BOOK, "bob"), None),
    ("changing", "grown", (BOOK, "ann", 1, 9), tuple), ("changing", "grown", (BOOK, "bob", 1, 9), None),
    ("changing", "alike_from", (BOOK, BOOK), str), ("changing", "alike_from", (BOOK, (30, 20, ())), type(None)),
    ("verdicts", "verdict", (LEXICON, FOLLOW, ROW, "i"), tuple),
    ("pages", "is_moment", (MOMENT,), bool), ("pages", "is_moment", ([[4], 0],), bool),
    ("pages", "is_page", (PAGE,), bool),
    ("pages", "is_page", ([4, [0], ["put"]],), bool), ("pages", "is_base", (BASE,), bool),
    ("pages", "is_base", ([[30]],), bool), ("pages", "moment_of", (PAGE,), tuple),
    ("rolls", "is_roll", (ROLL,), bool), ("rolls", "is_roll", ([[4]],), bool),
    ("rolls", "in_order", ([PAGE, PAGE],), tuple),
    ("rolls", "in_order", (ROLL[::-1],), tuple), ("rolls", "joined", (ROLL[1:], ROLL), tuple),
    ("rolls", "up_to", (ROLL, MOMENT), tuple), ("states", "row_of", (BASE, ROLL, MOMENT, "ann"), tuple),
    ("states", "row_of", (BASE, ROLL, MOMENT, "zoe"), None), ("states", "unfilled", (BASE, ROLL, MOMENT), tuple),
    ("states", "sure", (BASE, ROLL, MOMENT), tuple), ("states", "wrong", (BASE, ROLL, MOMENT), tuple),
    ("states", "stale", (BASE, ROLL, MOMENT), tuple), ("states", "what_is_left", (BASE, ROLL, (9, 9)), tuple),
    ("states", "filled", (BASE, ROLL, (9, 9)), tuple), ("texts", "section_word", (ANN,), str),
    ("views", "book_at", (BASE, ROLL, MOMENT), tuple), ("views", "marks_at", (BASE, ROLL, MOMENT), tuple),
    ("views", "painted_at", (BASE, ROLL, MOMENT), tuple), ("views", "bill_at", (BASE, ROLL, MOMENT), tuple),
    ("views", "idle", (BASE, ROLL, MOMENT), list),
    ("texts", "page_line", (PAGE,), str), ("texts", "roll_lines", (ROLL,), list),
    ("texts", "base_lines", (BASE,), list),
    ("pagereadings", "read_page", ("4 0 out ann",), tuple), ("pagereadings", "read_page", ("4 0 out",), None),
    ("pagereadings", "read_roll", (["4 0 out ann", "3 0 out bob"],), tuple),
    ("pagereadings", "read_roll", (["x"],), None),
    ("pagereadings", "read_base", (["book 9 5", "turn 1 red"],), tuple), ("pagereadings", "read_base", ([],), None),
    ("anew", "anew_lines", (ANN, LAY, 2, 4, (3, 3)), tuple), ("anew", "fewest_anew", (ANN, LAY, 2, 4, 9), tuple),
    ("anew", "fewest_anew", (ANN, LAY, 2, 4, 2), None), ("anew", "fewest_anew", (ANN, LAY, 2, 4, 9, 2), None),
    ("anewchecker", "lets_anew", (ANN, LAY, 3, 4, (0, LAY, ((0,) * 4,) * 4), 9), int),
    ("anewchecker", "lets_anew", (ANN, LAY, 3, 4, (0, LAY, ODD), 9), None),
    ("anewchecker", "lets_anew", (ANN, LAY, 3, 4, ODD, 9, 0), None),
    ("turns", "is_turns", (TURNS,), bool), ("turns", "is_turns", ([[1, ["red"]]],), bool),
    ("turns", "class_of", (TURNS, 9), int), ("turns", "colours", (TURNS, (1, 9, 1)), tuple),
    ("parting", "sums", (TURNS, (1, 9)), tuple), ("parting", "offsets", (TURNS, ((1,), (), (9,))), tuple),
    ("parting", "stretch_colours", (TURNS, (1, 9), (SIXTY, 1)), tuple),
    ("offsetchecker", "lets_offsets", (TURNS, ((1, 9), ()), ((0, 0), (1, 1))), bool),
    ("offsetchecker", "lets_offsets", (TURNS, ((1, 9), ()), ODD), None),
    ("shifts", "turned", (TURNS, (("ann", 1), ("bob", 1)), (("bob", 2),)), tuple),
    ("shifts", "shift", (TURNS, (("ann", 1), ("bob", 1)), (("bob", 2),), "bob"), int),
    ("shifts", "shift", (TURNS, (("ann", 1),), (("bob", 2),), "bob"), None),
)


def part(module, name):
    return getattr(importlib.import_module("leftspaces." + module), name)


class Interface(unittest.TestCase):
    def test_functions_have_their_arguments_and_stand_in_their_files(self):
        for module, functions in INTERFACE.items():
            for name, signature in functions.items():
                deed = part(module, name)
                self.assertEqual(str(inspect.signature(deed)), signature, name)
                self.assertEqual(deed.__module__, "leftspaces." + module)
                self.assertEqual(deed.__name__, name)

    def test_classes_have_their_methods_and_stand_in_their_files(self):
        for module, (name, signature, methods) in CLASSES.items():
            made = part(module, name)
            self.assertEqual(made.__module__, "leftspaces." + module)
            self.assertEqual(str(inspect.signature(made)), signature)
            for method, arguments in methods.items():
                self.assertIn(method, vars(made))
                self.assertEqual(str(inspect.signature(vars(made)[method])), arguments, method)

    def test_errors_have_their_fields_and_stand_in_their_file(self):
        for name, signature in ERRORS.items():
            made = part("errors", name)
            self.assertEqual(made.__module__, "leftspaces.errors")
            if signature is not None:
                self.assertIn("__init__", vars(made))
                self.assertEqual(str(inspect.signature(made)), signature, name)

    def test_each_function_is_called_here(self):
        called = {(module, name) for module, name, _, _ in CALLS}
        self.assertEqual(called, {(module, name) for module, names in INTERFACE.items() for name in names})


class Calls(unittest.TestCase):
    def ask(self, module, name, args):
        try:
            return part(module, name)(*args)
        except (LeftError, LackError) as refusal:
            return refusal.__class__.__name__, vars(refusal)

    def test_what_is_told_is_of_its_kind(self):
        for module, name, args, kind in CALLS:
            if kind is not None:
                self.assertIs(self.ask(module, name, args).__class__, kind, name)

    def test_what_is_handed_in_is_as_it_was(self):
        for module, name, args, _ in CALLS:
            before = repr(copy.deepcopy(args))
            self.ask(module, name, args)
            self.assertEqual(repr(args), before, name)

    def test_what_was_asked_before_changes_nothing(self):
        first = [self.ask(module, name, args) for module, name, args, _ in CALLS]
        again = [self.ask(module, name, args) for module, name, args, _ in reversed(CALLS)]
        self.assertEqual(first, again[::-1])

    def test_places_and_names_lead_to_the_same(self):
        for module, name, args, _ in CALLS:
            names = list(inspect.signature(part(module, name)).parameters)
            told = self.ask(module, name, args)
            try:
                named = part(module, name)(**dict(zip(names, args)))
            except (LeftError, LackError) as refusal:
                named = (refusal.__class__.__name__, vars(refusal))
            self.assertEqual(told, named)
