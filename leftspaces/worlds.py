"""A WORLD of CANS and a BILL, or a NO: why there is none [6], [42], [43], [52]."""


def world(cans, bill):
    """A pair: "world" and a WORLD, or "no" and a NO."""
    many = dict(bill)
    held = [None] * len(cans)
    bound = [space for space, can in enumerate(cans) if free_letters(can, many) == []]
    for space in bound:
        crowd = seat(cans, many, held, space)
        if crowd != ():
            return ("no", ("crowd", crowd))
    # What holds a BILLED LETTER by now goes on to hold one, so the bound spaces lack none.
    for space in range(len(cans)):
        if held[space] is None:
            seat(cans, many, held, space)
    for letter, wanted in bill:
        if held.count(letter) < wanted:
            return ("no", ("few", few_letters(cans, held, letter)))
    return ("world", tuple([letter or free_letters(can, many)[0] for letter, can in zip(held, cans)]))


def free_letters(can, many):
    """The LETTERS of a CAN that aren't BILLED."""
    return [letter for letter in can if letter not in many]


def seat(cans, many, held, space):
    """Give a space a BILLED LETTER, by exchanges; where that can't be tell the crowd of spaces of which one lacks."""
    crowd = [space]
    takers = {}
    at = 0
    while at < len(crowd):
        taker = crowd[at]
        for letter in [told for told in cans[taker] if told in many and told not in takers]:
            takers[letter] = taker
            if held.count(letter) < many[letter]:
                exchange(held, takers, letter)
                return ()
            crowd.extend([holder for holder, other in enumerate(held) if other == letter])
        at += 1
    return tuple(sorted(crowd))


def exchange(held, takers, letter):
    """Hand a LETTER to its taker, what that one held to the taker of this, and so on to one that held nothing."""
    while letter is not None:
        space = takers[letter]
        held[space], letter = letter, held[space]


def few_letters(cans, held, letter):
    """The LETTERS, from one that lacks spaces on, that are held by all spaces which could have one of them."""
    letters = [letter]
    at = 0
    while at < len(letters):
        for can, other in zip(cans, held):
            if letters[at] in can and other not in letters:
                letters.append(other)
        at += 1
    return tuple(sorted(letters))
