"""WORLDS and REPAINT PAPERS, and why a thing is none, as the document's words tell it, looked up plainly [41], [48]."""


def why_no_world(cans, bill, thing):
    """Why a tuple of letters, as many as spaces, is no WORLD, or None: the words of [41], each asked of all places."""
    out = [("can", k) for k, (letter, can) in enumerate(zip(thing, cans)) if letter not in can]
    off = [("bill", r) for r, (letter, many) in enumerate(bill) if list(thing).count(letter) != many]
    return (out + off + [None])[0]


def anew(painted, letters):
    """How many spaces are painted ANEW in a WORLD, as [48] tells it."""
    return sum(old is not None and old != new for old, new in zip(painted, letters))


def dear_space(cans, bill, painted, prices):
    """The first space by a LETTER of whose CAN the PRICES are above what they may be, as [48] tells it, or None."""
    spaces, rows = prices
    by_letter = {letter: price for (letter, _), price in zip(bill, rows)}
    for space, can in enumerate(cans):
        for letter in can:
            most = 0 if painted[space] is None or painted[space] == letter else 1
            if spaces[space] + by_letter.get(letter, 0) > most:
                return space
    return None


def sum_of(bill, prices):
    """The SUM of PRICES, as [48] tells it."""
    return sum(prices[0]) + sum(price * many for price, (_, many) in zip(prices[1], bill))


def some_painted(chance, cans):
    """What is PAINTED in some spaces; now and then none of its CAN."""
    return tuple(chance.choice((None, chance.choice(can or "x"), chance.choice(can or "y"), chance.choice("abcdz")))
                 for can in cans)
