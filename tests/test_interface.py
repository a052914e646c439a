"""The interface: names, arguments, kinds of values; what is handed in stays as it was [2], [8]."""

import copy
import importlib
import inspect
import unittest

from leftspaces.errors import LackError, LeftError
from tests.things import SIXTY

INTERFACE = {
    "kinds": {"is_number": "(thing)", "is_letter": "(thing)", "is_word": "(thing)", "is_section": "(thing)",
              "is_book": "(thing)"},
    "rooms": {"begins": "(section, i)", "room": "(section, i, width=30)"},
    "lays": {"line_words": "(section, lay, i)"},
    "laychecker": {"lets_lay": "(section, thing, width=30)"},
    "bending": {"bent": "(section, width=30)"},
    "bentchecker": {"lets_bent": "(section, thing, width=30)"},
    "spreading": {"spread": "(book, line=0)", "sheets_of": "(book)"},
    "patterns": {"is_pattern": "(thing)", "fits": "(pattern, word)"},
    "lexicons": {"is_lexicon": "(thing)", "is_follow": "(thing)", "sorts_of": "(lexicon, word)",
                 "words_for": "(lexicon, pattern, guide=None)"},
    "rows": {"is_row": "(thing)"},
    "reading": {"can": "(lexicon, follow, row)", "reading_with": "(lexicon, follow, row, letter)"},
    "readingchecker": {"lets_reading": "(lexicon, follow, row, thing)"},
    "barrierchecker": {"lets_barrier": "(lexicon, follow, row, letter, thing)"},
    "cans": {"are_cans": "(thing)", "is_bill": "(thing)"},
    "worlds": {"world": "(cans, bill)"},
    "canbe": {"left_by": "(cans, bill, space, letter)", "can_be": "(cans, bill, space)",
              "world_with": "(cans, bill, space, letter)"},
    "anew": {"anew_lines": "(section, lay, high, wide, newer)",
             "fewest_anew": "(section, lay, high, wide, width=30, most=None)"},
    "anewchecker": {"lets_anew": "(section, lay, high, wide, thing, width=30, most=None)"},
    "turns": {"is_turns": "(thing)", "class_of": "(turns, high)", "colours": "(turns, highs)"},
    "parting": {"sums": "(turns, highs)", "offsets": "(turns, stretches)",
                "stretch_colours": "(turns, highs, offset)"},
}
ERRORS = {
    "LeftError": None, "LackError": None,
    "NoPaper": "(word, at)", "NoLay": "(word)", "NoReading": "(paper)", "NoWorld": "(paper)", "NoPage": "(word)",
    "NoText": "(row, word)", "NoRow": "(row)", "NoName": "(name)", "NoPlace": "(place)", "NoStep": "(number)",
}
ANN = ("ann", 3, 4, ("nn", "was", "old"))
BOOK = (30, 20, (ANN,))
TURNS = ((1, ("red", "blue")), (3, ("green",)))
LEXICON = (("ann", ("name",)), ("inn", ("house", "name")), ("was", ("act",)))
FOLLOW = (("name", "act"),)
ROW = (("a", "e"), ("nn", "w?s"))
LAY = (1, 2, 3)
CANS = (("a", "e"), ("a",), ("a", "i"))
BILL = (("a", 2), ("e", 1))
ODD = [1, [2], None]
CALLS = (
    ("kinds", "is_number", (SIXTY,), bool), ("kinds", "is_letter", ("a",), bool), ("kinds", "is_word", ("ab",), bool),
    ("kinds", "is_section", (ANN,), bool), ("kinds", "is_book", (BOOK,), bool), ("kinds", "is_book", ([[1], ["a"]],), bool),
    ("rooms", "begins", (ANN, 0), int), ("rooms", "room", (ANN, 9, 3), int), ("lays", "line_words", (ANN, (3, 3, 3), 0), tuple),
    ("lays", "line_words", (ANN, (3, 3, 3), -1), None), ("bending", "bent", (ANN, 9), tuple),
    ("bending", "bent", (ANN, 2), None),
    ("laychecker", "lets_lay", (ANN, LAY, 9), int), ("laychecker", "lets_lay", (ANN, ODD, 9), None),
    ("bentchecker", "lets_bent", (ANN, LAY, 9), int), ("bentchecker", "lets_bent", (ANN, ODD, 9), None),
    ("spreading", "spread", (BOOK, SIXTY), tuple), ("spreading", "sheets_of", (BOOK,), int),
    ("patterns", "is_pattern", ("w?s",), bool), ("patterns", "is_pattern", (ODD,), bool),
    ("patterns", "fits", ("w?s", "was"), bool),
    ("lexicons", "is_lexicon", (LEXICON,), bool), ("lexicons", "is_lexicon", ([["ann", ["name"]]],), bool),
    ("lexicons", "is_follow", (FOLLOW,), bool), ("lexicons", "is_follow", ([["name", "act"]],), bool),
    ("lexicons", "sorts_of", (LEXICON, "inn"), tuple), ("lexicons", "sorts_of", (LEXICON, "on"), tuple),
    ("lexicons", "words_for", (LEXICON, "?n", ("a", "i")), tuple), ("lexicons", "words_for", (LEXICON, "???"), tuple),
    ("rows", "is_row", (ROW,), bool), ("rows", "is_row", ([["a"], ["nn"]],), bool),
    ("reading", "can", (LEXICON, FOLLOW, ROW), tuple), ("reading", "reading_with", (LEXICON, FOLLOW, ROW, "a"), tuple),
    ("reading", "reading_with", (LEXICON, FOLLOW, ROW, "i"), None),
    ("readingchecker", "lets_reading", (LEXICON, FOLLOW, ROW, (("ann", "name"), ("was", "act"))), bool),
    ("readingchecker", "lets_reading", (LEXICON, FOLLOW, ROW, ODD), None),
    ("barrierchecker", "lets_barrier", (LEXICON, FOLLOW, ROW, "i", ((), ())), bool),
    ("barrierchecker", "lets_barrier", (LEXICON, FOLLOW, ROW, "a", ODD), None),
    ("cans", "are_cans", (CANS,), bool), ("cans", "are_cans", ([["a"]],), bool),
    ("cans", "is_bill", (BILL,), bool), ("cans", "is_bill", ([["a", 1]],), bool),
    ("worlds", "world", (CANS, BILL), tuple), ("worlds", "world", (CANS, (("z", 1),)), tuple),
    ("canbe", "left_by", (CANS, BILL, 0, "e"), tuple), ("canbe", "left_by", (CANS, BILL, 1, "e"), type(None)),
    ("canbe", "left_by", (CANS, BILL, 3, "e"), None), ("canbe", "can_be", (CANS, BILL, 2), tuple),
    ("canbe", "can_be", (CANS, BILL, -1), None), ("canbe", "world_with", (CANS, BILL, 2, "a"), tuple),
    ("canbe", "world_with", (CANS, BILL, SIXTY, "a"), None),
    ("anew", "anew_lines", (ANN, LAY, 2, 4, (3, 3)), tuple), ("anew", "fewest_anew", (ANN, LAY, 2, 4, 9), tuple),
    ("anew", "fewest_anew", (ANN, LAY, 2, 4, 2), None), ("anew", "fewest_anew", (ANN, LAY, 2, 4, 9, 2), None),
    ("anewchecker", "lets_anew", (ANN, LAY, 3, 4, (0, LAY, ((0,) * 4,) * 4), 9), int),
    ("anewchecker", "lets_anew", (ANN, LAY, 3, 4, (0, LAY, ODD), 9), None),
    ("anewchecker", "lets_anew", (ANN, LAY, 3, 4, ODD, 9, 0), None),
    ("turns", "is_turns", (TURNS,), bool), ("turns", "is_turns", ([[1, ["red"]]],), bool),
    ("turns", "class_of", (TURNS, 9), int), ("turns", "colours", (TURNS, (1, 9, 1)), tuple),
    ("parting", "sums", (TURNS, (1, 9)), tuple), ("parting", "offsets", (TURNS, ((1,), (), (9,))), tuple),
    ("parting", "stretch_colours", (TURNS, (1, 9), (SIXTY, 1)), tuple),
)


def part(module, name):
    return getattr(importlib.import_module("leftspaces." + module), name)


class Interface(unittest.TestCase):
    def test_functions_have_their_arguments_and_stand_in_their_files(self):
        for module, functions in INTERFACE.items():
            for name, signature in functions.items():
                deed = part(module, name)
                self.assertEqual(str(inspect.signature(deed)), signature, name)
                self.assertEqual(deed.__module__, "leftspaces." + module)
                self.assertEqual(deed.__name__, name)

    def test_errors_have_their_fields_and_stand_in_their_file(self):
        for name, signature in ERRORS.items():
            made = part("errors", name)
            self.assertEqual(made.__module__, "leftspaces.errors")
            if signature is not None:
                self.assertIn("__init__", vars(made))
                self.assertEqual(str(inspect.signature(made)), signature, name)

    def test_each_function_is_called_here(self):
        called = {(module, name) for module, name, _, _ in CALLS}
        self.assertEqual(called, {(module, name) for module, names in INTERFACE.items() for name in names})


class Calls(unittest.TestCase):
    def ask(self, module, name, args):
        try:
            return part(module, name)(*args)
        except (LeftError, LackError) as refusal:
            return refusal.__class__.__name__, vars(refusal)

    def test_what_is_told_is_of_its_kind(self):
        for module, name, args, kind in CALLS:
            if kind is not None:
                self.assertIs(self.ask(module, name, args).__class__, kind, name)

    def test_what_is_handed_in_is_as_it_was(self):
        for module, name, args, _ in CALLS:
            before = repr(copy.deepcopy(args))
            self.ask(module, name, args)
            self.assertEqual(repr(args), before, name)

    def test_what_was_asked_before_changes_nothing(self):
        first = [self.ask(module, name, args) for module, name, args, _ in CALLS]
        again = [self.ask(module, name, args) for module, name, args, _ in reversed(CALLS)]
        self.assertEqual(first, again[::-1])

    def test_places_and_names_lead_to_the_same(self):
        for module, name, args, _ in CALLS:
            names = list(inspect.signature(part(module, name)).parameters)
            told = self.ask(module, name, args)
            try:
                named = part(module, name)(**dict(zip(names, args)))
            except (LeftError, LackError) as refusal:
                named = (refusal.__class__.__name__, vars(refusal))
            self.assertEqual(told, named)
