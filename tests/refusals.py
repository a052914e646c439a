"""Refusals, looked at."""

from leftspaces.errors import NoPaper


class Refusals:
    """What a test of refusals asks."""

    def check_refused(self, refusal, fields, deed, *args, **named):
        """A deed is refused with just this refusal, made of just these fields."""
        with self.assertRaises(refusal, msg=(args, named)) as held:
            deed(*args, **named)
        self.assertIs(held.exception.__class__, refusal)
        # By what they show, as True is like 1 else.
        self.assertEqual(repr(list(vars(held.exception).values())), repr(list(fields)), (args, named))

    def check_no_paper(self, word, at, deed, *args, **named):
        """A checker refuses a thing with this word, at this place."""
        self.check_refused(NoPaper, (word, at), deed, *args, **named)
