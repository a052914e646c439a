"""The VERDICT on a painted LETTER: what it makes of its word, and what it may be [36]."""

from leftspaces.reading import can, words_made
from leftspaces.rows import lets_letter


def verdict(lexicon, follow, row, letter):
    """The VERDICT on a LETTER: a word, the WORDS that it makes, and the CAN."""
    made = words_made(lexicon, row, letter)
    told = can(lexicon, follow, row)
    return (verdict_word(row[0], letter, made, told), made, told)


def verdict_word(guide, letter, made, letters):
    """The word of the VERDICT on a LETTER that makes such WORDS, where the CAN has such LETTERS."""
    if not lets_letter(guide, letter):
        return "guide"
    if made == ():
        return "word"
    if letter not in letters:
        return "row"
    return "right" if letters == (letter,) else "may"
