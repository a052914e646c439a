"""Two BILLS JOINED [51]."""


def joined_bills(one, other):
    """The BILL of the LETTERS that are BILLED in both, with both their many added."""
    many = dict(other)
    return tuple([(letter, count + many[letter]) for letter, count in one if letter in many])
