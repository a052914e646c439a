"""The refusals [8]."""

import unittest

from leftspaces import errors

FIELDS = {
    "NoPaper": ("word", "at"), "NoLay": ("word",), "NoReading": ("paper",), "NoWorld": ("paper",),
    "NoPage": ("word",), "NoText": ("row", "word"), "NoRow": ("row",),
    "NoName": ("name",), "NoPlace": ("place",), "NoStep": ("number",),
}
LACKS = ("NoName", "NoPlace", "NoStep")


class Strict:
    """A thing that can't be looked at in any way."""

    def refuse(self, *args):
        raise AssertionError("looked at")

    __eq__ = __ne__ = __lt__ = __len__ = __iter__ = __bool__ = __str__ = __repr__ = __getitem__ = refuse
    __hash__ = __contains__ = __copy__ = __deepcopy__ = refuse


def refusal(name):
    return getattr(errors, name)


def base_of(name):
    return errors.LackError if name in LACKS else errors.LeftError


class Bases(unittest.TestCase):
    def test_bases_stand_straight_under_pythons(self):
        self.assertEqual(errors.LeftError.__bases__, (ValueError,))
        self.assertEqual(errors.LackError.__bases__, (LookupError,))

    def test_bases_are_apart(self):
        self.assertFalse(issubclass(errors.LeftError, errors.LackError))
        self.assertFalse(issubclass(errors.LackError, errors.LeftError))

    def test_each_refusal_stands_straight_under_its_one_base(self):
        for name in FIELDS:
            self.assertEqual(refusal(name).__bases__, (base_of(name),), name)
            self.assertEqual(refusal(name).__module__, "leftspaces.errors")

    def test_there_are_no_others(self):
        found = [name for name, thing in vars(errors).items() if isinstance(thing, type)]
        self.assertEqual(sorted(found), sorted([*FIELDS, "LeftError", "LackError"]))


class Made(unittest.TestCase):
    def test_is_no_instance_of_another_refusal_or_base(self):
        for name, fields in FIELDS.items():
            made = refusal(name)(*fields)
            for other in FIELDS:
                self.assertEqual(isinstance(made, refusal(other)), other == name, (name, other))
            self.assertEqual(isinstance(made, errors.LackError), name in LACKS)
            self.assertEqual(isinstance(made, errors.LeftError), name not in LACKS)
            self.assertEqual(isinstance(made, LookupError), name in LACKS)
            self.assertEqual(isinstance(made, ValueError), name not in LACKS)

    def test_keeps_the_very_things_by_place(self):
        for name, fields in FIELDS.items():
            things = [Strict() for _ in fields]
            made = refusal(name)(*things)
            self.check_kept(made, fields, things)

    def test_keeps_the_very_things_by_name(self):
        for name, fields in FIELDS.items():
            things = [Strict() for _ in fields]
            made = refusal(name)(**dict(zip(reversed(fields), reversed(things))))
            self.check_kept(made, fields, things)

    def check_kept(self, made, fields, things):
        self.assertEqual(tuple(vars(made)), fields)
        for field, thing in zip(fields, things):
            self.assertIs(getattr(made, field), thing)

    def test_keeps_a_list_itself_and_leaves_it(self):
        for name, fields in FIELDS.items():
            things = [[1, ["a"], None] for _ in fields]
            made = refusal(name)(*things)
            self.check_kept(made, fields, things)
            self.assertEqual(things, [[1, ["a"], None] for _ in fields])

    def test_keeps_any_things(self):
        for thing in (None, True, 0, -1, "", (), [], ("a", (1, 2)), 10 ** 59):
            for name, fields in FIELDS.items():
                self.check_kept(refusal(name)(*[thing for _ in fields]), fields, [thing for _ in fields])

    def test_is_made_of_just_its_fields(self):
        for name, fields in FIELDS.items():
            with self.assertRaises(TypeError):
                refusal(name)(*fields, 1)
            with self.assertRaises(TypeError):
                refusal(name)(*fields[1:])

    def test_is_caught_by_its_base(self):
        for name, fields in FIELDS.items():
            with self.assertRaises(base_of(name)) as held:
                raise refusal(name)(*fields)
            self.assertEqual(vars(held.exception), {field: field for field in fields})
