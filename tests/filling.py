"""WORLDS and NOs as the document's words tell them, looked up plainly; and small and large CANS and BILLS."""

from itertools import product
from random import Random

LETTERS = tuple("abcdefghijklmnopqrstuvwxyz")


def is_world(cans, bill, thing):
    """Whether letters are a WORLD, as [6] tells it."""
    if not isinstance(thing, tuple) or len(thing) != len(cans):
        return False
    if [letter for letter, can in zip(thing, cans) if letter not in can]:
        return False
    return all(sum(letter == other for other in thing) == many for letter, many in bill)


def all_worlds(cans, bill):
    """Each WORLD of small CANS and a BILL."""
    return [letters for letters in product(*cans) if is_world(cans, bill, letters)]


def is_no(cans, bill, thing):
    """Whether it is a NO, as [42] tells it."""
    if not isinstance(thing, tuple) or len(thing) != 2 or not isinstance(thing[1], tuple):
        return False
    word, entries = thing
    if list(entries) != sorted(set(entries)):
        return False
    if word == "crowd":
        return is_crowd(cans, dict(bill), entries)
    return word == "few" and is_few(cans, dict(bill), entries)


def is_crowd(cans, many, spaces):
    """Whether spaces are more than all LETTERS together that they can have, each of them BILLED."""
    if [space for space in spaces if space.__class__ is not int or not 0 <= space < len(cans)]:
        return False
    letters = {letter for space in spaces for letter in cans[space]}
    return letters <= set(many) and len(spaces) > sum(many[letter] for letter in letters)


def is_few(cans, many, letters):
    """Whether BILLED LETTERS are more than the spaces that can have one of them or several."""
    if not set(letters) <= set(many):
        return False
    return sum(many[letter] for letter in letters) > sum(bool(set(can) & set(letters)) for can in cans)


def some_letters(chance, letters, least=0):
    """Some of these LETTERS, rising."""
    return tuple(sorted(chance.sample(letters, chance.randint(least, len(letters)))))


def small_fillings(many, seed):
    """So many pairs of few CANS and a BILL of few LETTERS, always the same ones of a seed."""
    chance = Random(seed)
    for _ in range(many):
        letters = "abcd"[:chance.randint(1, 4)]
        cans = tuple(some_letters(chance, letters, chance.choice((0, 1, 1, 1))) for _ in range(chance.randint(0, 5)))
        billed = some_letters(chance, letters + chance.choice(("", "z")))
        yield cans, tuple((letter, chance.choice((0, 1, 1, 2, 3))) for letter in billed)


def large_fillings(many, seed):
    """So many pairs of twelve CANS and a BILL of eight rows, some of which have a WORLD by how they are made."""
    chance = Random(seed)
    for _ in range(many):
        letters = LETTERS[:chance.choice((8, 9, 12, 26))]
        most = chance.choice((2, 3, 8, len(letters)))
        cans = tuple(tuple(sorted(chance.sample(letters, chance.randint(1, most)))) for _ in range(12))
        told = [chance.choice(can) for can in cans]
        more = (0,) * 12 + (1, -1, 99)
        billed = sorted(chance.sample(letters, 8))
        yield cans, tuple((letter, max(0, told.count(letter) + chance.choice(more))) for letter in billed)
