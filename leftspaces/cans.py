"""CANS, the LETTERS that each of some spaces can have, and a BILL, how many there are of some LETTERS [6], [40]."""

from leftspaces.kinds import are_rising_letters, is_from_nought, is_letter, is_pair, rises


def are_cans(thing):
    """Whether it is CANS."""
    return isinstance(thing, tuple) and all([are_rising_letters(can) for can in thing])


def is_bill(thing):
    """Whether it is a BILL."""
    if not isinstance(thing, tuple) or not all([is_bill_row(row) for row in thing]):
        return False
    return rises([row[0] for row in thing])


def is_bill_row(thing):
    """Whether it is a row that a BILL can have: a LETTER, and how many there are of it."""
    return is_pair(thing) and is_letter(thing[0]) and is_from_nought(thing[1])
