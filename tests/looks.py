"""Looks by kind, asked of any thing."""

import copy


class Looks:
    """What a test of looks asks."""

    def told(self, look, thing, expected):
        """A look tells True or False, and leaves the thing as it was."""
        before = copy.deepcopy(thing)
        self.assertIs(look(thing), expected, (look.__name__, thing))
        self.assertIs(look(thing=thing), expected, (look.__name__, thing))
        self.assertEqual(repr(thing), repr(before))
