"""What lines write, by the document's words, looked up plainly [79], [80]; and things to write."""

import re

NUMBER = "0|[1-9][0-9]{0,8}"
SIZE = "[1-9][0-9]{0,8}"
WORD = "[a-z]{1,8}"
WORDS = f"{WORD}(,{WORD})*"
SECTION = f"{WORD}:{SIZE}:{SIZE}:{WORDS}"
PAGE_WORDS = {
    "put": (SECTION, f"-|{WORD}"), "out": (WORD,), "grow": (WORD, SIZE, SIZE), "guide": (WORD, "letters"),
    "scrape": (WORD,), "paint": (WORD, "[a-z]", WORD), "bill": ("[a-z]", NUMBER),
}
BASE_WORDS = {
    "book": (SIZE, SIZE), "section": (SECTION,), "word": ("[a-z]{2,8}", "sorts"), "follow": (WORD, WORD),
    "turn": (SIZE, WORDS),
}
ORDER = ("book", "section", "word", "follow", "turn")

ANN = ("ann", 3, 4, ("nn", "was", "old"))
BOB = ("bob", 1, 2, ("ob",))
PAGES = (
    (4, 0, "put", ANN, "bob"), (4, 0, "put", BOB, ""), (0, 0, "out", "ann"), (99999, 999, "grow", "ann", 3, 40),
    (4, 7, "guide", "ann", ("a", "e")), (4, 7, "guide", "ann", ()), (10, 100, "scrape", "abcdefgh"),
    (5, 0, "paint", "ann", "a", "red"), (6, 0, "bill", "a", 0), (6, 0, "bill", "z", 99),
)
LINES = (
    "4 0 put ann:3:4:nn,was,old bob", "4 0 put bob:1:2:ob -", "0 0 out ann", "99999 999 grow ann 3 40",
    "4 7 guide ann ae", "4 7 guide ann -", "10 100 scrape abcdefgh", "5 0 paint ann a red", "6 0 bill a 0",
    "6 0 bill z 99",
)
BASE = ((9, 5, (ANN, BOB)), (("ann", ("name",)), ("inn", ("house", "name")), ("was", ("act",))),
        (("house", "act"), ("name", "act")), ((1, ("red", "blue")), (3, ("green", "green")), (10, ("gold",))))
BASE_LINES = ["book 9 5", "section ann:3:4:nn,was,old", "section bob:1:2:ob", "word ann name", "word inn house,name",
              "word was act", "follow house act", "follow name act", "turn 1 red,blue", "turn 3 green,green",
              "turn 10 gold"]
ODD_WORDS = ("", "-", "0", "1", "00", "01", "+1", "-1", "1.0", "99999", "100000", "999", "1000", "a", "ab", "A", "a?",
             "abcdefgh", "abcdefghi", "ae", "ea", "aa", "put", "ann:3:4:nn", "ann:0:4:nn", "ann:3:04:nn", "ann:3:4:",
             "ann:3:4", "ann:3:4:nn:x", ":3:4:nn", "ann:3:-4:nn", "ann:3:4:nn,", "ann:3:4:,nn", "ann:3:4:nn,,x",
             "ann:3:4:abcdefghi", "ann:9:4:nn", "a,b", "b,a", "a,a", "a,", ",a", ",", "x,y,zz", "a:b", "true", "1_0",
             "1e1", "999999999", "1000000000", "ann:1000000000:4:nn", "ann:3:999999999:nn", "book", "turn")


def writes(form, word):
    """Whether a word can stand where a form is asked."""
    if form == "letters":
        return word == "-" or re.fullmatch("[a-z]+", word) is not None and list(word) == sorted(set(word))
    if form == "sorts":
        sorts = word.split(",")
        return re.fullmatch(WORDS, word) is not None and sorts == sorted(set(sorts))
    if form in ("day", "moment"):
        most = 99999 if form == "day" else 999
        return re.fullmatch(NUMBER, word) is not None and int(word) <= most
    return re.fullmatch(form, word) is not None


def bad_word(text, forms):
    """The first word that can't stand in a line of such forms, or how many there are, where some lack, or None."""
    words = text.split(" ")
    for at, word in enumerate(words):
        if at >= len(forms) or not writes(forms[at], word):
            return at
    return len(words) if len(words) < len(forms) else None


def bad_in_page(text):
    """Where a line writes no PAGE, or None."""
    kind = (text.split(" ") + ["", "", ""])[2]
    return bad_word(text, ("day", "moment", "|".join(PAGE_WORDS)) + PAGE_WORDS.get(kind, ()))


def bad_in_base(lines):
    """Where a list of lines writes no BASE, a pair, or None."""
    ahead = []
    for row, text in enumerate(lines):
        kind = text.split(" ")[0]
        at = bad_word(text, ("|".join(BASE_WORDS),) + BASE_WORDS.get(kind, ()))
        if at is not None:
            return row, at
        if not may_stand(ahead, text.split(" ")):
            return row, 0
        ahead.append(text.split(" "))
    return None if ahead and ahead[-1][0] == "turn" else (len(lines), 0)


def may_stand(ahead, words):
    """Whether a line that writes something can stand behind those ahead."""
    kind = words[0]
    if (kind == "book") != (not ahead):
        return False
    if ahead and ORDER.index(ahead[-1][0]) > ORDER.index(kind):
        return False
    like = [line for line in ahead if line[0] == kind]
    if kind == "section":
        width, lines = (int(word) for word in ahead[0][1:])
        name, high, _, texts = words[1].split(":")
        longest = max(len(text) for text in texts.split(","))
        return name not in [line[1].split(":")[0] for line in like] and int(high) <= lines and longest <= width
    if kind == "word":
        return not like or like[-1][1] < words[1]
    if kind == "follow":
        return not like or like[-1][1:] < words[1:]
    if kind == "turn":
        return int(words[1]) > int(like[-1][1]) if like else words[1] == "1"
    return True


def with_words_otherwise(text):
    """Lines that come of one with a word otherwise, one too few, one too many, two changed in their order."""
    words = text.split(" ")
    for at in range(len(words)):
        yield " ".join(words[:at] + words[at + 1:])
        for odd in ODD_WORDS:
            yield " ".join(words[:at] + [odd] + words[at + 1:])
            yield " ".join(words[:at] + [odd] + words[at:])
        yield " ".join(words[:at])
    for odd in ODD_WORDS:
        yield text + " " + odd
    for at in range(len(words) - 1):
        yield " ".join(words[:at] + [words[at + 1], words[at]] + words[at + 2:])
