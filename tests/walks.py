"""The WALK of a ROLL, and what it leads to, as the document's words tell them, looked up plainly; and small ROLLS."""

from random import Random

from tests.readings import all_readings, there

KINDS = ("put", "out", "grow", "guide", "scrape", "paint", "bill")
END = (99999, 999)


def stand(page):
    """What PAGES STAND by, as [7] tells it."""
    return page[0], page[1], KINDS.index(page[2]), page[3:]


class Stands:
    """What stands behind a MOMENT, as [7] tells it, and the PAGES that were IDLE, each with its word."""

    def __init__(self, base, roll, moment):
        (self.width, self.lines, sections), self.lexicon, self.follow, self.turns = base
        self.sections = list(sections)
        self.marks, self.painted, self.bill, self.idle = {}, {}, {}, []
        for page in sorted(set(roll), key=stand):
            if (page[0], page[1]) <= moment:
                words = self.why_idle(page)
                if words:
                    self.idle.append((page, words[0]))
                else:
                    self.deed(*page[2:])

    def names(self):
        return [section[0] for section in self.sections]

    def why_idle(self, page):
        """Each word by which a PAGE can't be done, in order."""
        kind, told = page[2], page[3:]
        words = []
        if kind == "put":
            (name, high, _, texts), ahead = told
            words += ["twice"] * (name in self.names())
            words += ["ahead"] * (ahead != "" and ahead not in self.names())
            words += ["high"] * (high > self.lines)
            words += ["long"] * (max(len(text) for text in texts) > self.width)
        elif kind != "bill":
            words += ["name"] * (told[0] not in self.names())
            words += ["high"] * (kind == "grow" and told[1] > self.lines)
            words += ["full"] * (kind == "paint" and told[0] in self.painted)
            words += ["void"] * (kind == "scrape" and told[0] not in self.painted)
        return words

    def deed(self, kind, name, *more):
        """Do a PAGE, of which kind and things are told."""
        if kind == "put":
            at = self.names().index(more[0]) if more[0] else len(self.sections)
            self.sections.insert(at, name)
        elif kind == "bill":
            self.bill[name] = more[0]
        elif kind == "guide":
            self.marks[name] = more[0]
        elif kind == "paint":
            self.painted[name] = more
        elif kind == "scrape":
            del self.painted[name]
        else:
            at = self.names().index(name)
            words = self.sections[at][3]
            self.sections[at:at + 1] = [(name, *more, words)] if kind == "grow" else []
            if kind == "out":
                self.marks.pop(name, None)
                self.painted.pop(name, None)

    def row(self, section):
        """The ROW of a SECTION, as [75] tells it."""
        return self.marks.get(section[0]) or None, section[3][:8]

    def can(self, section):
        """The CAN of a SECTION."""
        readings = all_readings(self.lexicon, self.follow, self.row(section))
        return tuple(sorted({pairs[0][0][0] for pairs in readings}))

    def voids(self):
        """The SECTIONS whose SPACE has nothing."""
        return [section for section in self.sections if section[0] not in self.painted]

    def verdict_word(self, section, letter):
        """The word of the VERDICT on a LETTER, as [36] tells it."""
        row = self.row(section)
        return plain_verdict(self.lexicon, self.follow, row, letter)[0]

    def wrong(self):
        """What is WRONG, as [76] tells it."""
        words = [(section[0], self.verdict_word(section, self.painted[section[0]][0]))
                 for section in self.sections if section[0] in self.painted]
        return tuple((name, word) for name, word in words if word not in ("right", "may"))

    def stale(self):
        """What is STALE, as [76] tells it."""
        told = []
        counts = {}
        for name, high, _, _ in self.sections:
            number = [k for k, (least, _) in enumerate(self.turns) if least <= high][-1]
            ring = self.turns[number][1]
            due = ring[counts.get(number, 0) % len(ring)]
            counts[number] = counts.get(number, 0) + 1
            if name in self.painted and self.painted[name][1] != due:
                told.append((name, due))
        return tuple(told)

    def left(self):
        """The BILL of what is LEFT, as [77] tells it."""
        letters = [letter for letter, _ in self.painted.values()]
        return tuple((letter, many - letters.count(letter)) for letter, many in sorted(self.bill.items()))


def plain_verdict(lexicon, follow, row, letter):
    """The VERDICT on a LETTER, as [36] tells it."""
    guide = row[0]
    made = tuple(sorted(word for word, _ in there(lexicon, row, 0) if word[0] == letter))
    can = tuple(sorted({pairs[0][0][0] for pairs in all_readings(lexicon, follow, row)}))
    words = [("guide", guide is not None and letter not in guide), ("word", not made), ("row", letter not in can),
             ("right", can == (letter,)), ("may", True)]
    return [word for word, so in words if so][0], made, can


LEXICON = (("abe", ("p",)), ("are", ("q",)), ("be", ("p", "q")), ("he", ("p",)), ("me", ("q",)), ("we", ("p",)))
FOLLOW = (("p", "p"), ("p", "q"), ("q", "q"))
TURNS = ((1, ("red", "blue")), (3, ("green", "gold", "green")))
NAMES = ("ann", "bob", "cat", "dan", "eve")


def small_pages(chance, many):
    """So many PAGES on few days, some of them IDLE."""
    return [(chance.randint(0, 3), chance.randint(0, 2)) + small_deed(chance, chance.choice(NAMES))
            for _ in range(many)]


def small_section(chance, name):
    """A SECTION, now and then too high, or with a WORD too long."""
    words = [chance.choice(("e", "e", "re", "be", "x"))]
    words += [chance.choice(("be", "me", "he", "are", "we")) for _ in range(chance.randint(0, 2))]
    words += ["abcdefg"] * (chance.random() < 0.1)
    return name, chance.choice((1, 2, 3, 5, 6)), chance.randint(1, 3), tuple(words)


def small_deed(chance, name):
    """The kind of a PAGE, and what stands behind it."""
    kind = chance.choice(KINDS + ("put", "put", "paint", "paint"))
    return (kind,) + {
        "put": (small_section(chance, name), chance.choice(("", "", "", "ann", "bob", "cat"))),
        "out": (name,), "scrape": (name,),
        "grow": (name, chance.choice((1, 2, 3, 5, 6)), chance.randint(1, 3)),
        "guide": (name, tuple(sorted(chance.sample("abhmw", chance.randint(0, 4))))),
        "paint": (name, chance.choice("abhmw"), chance.choice(("red", "blue", "green"))),
        "bill": (chance.choice("abhmz"), chance.choice((0, 0, 1, 1, 2, 3))),
    }[kind]


def small_walks(many, seed):
    """So many triples of a BASE, a ROLL and a MOMENT, always the same ones of a seed."""
    chance = Random(seed)
    for _ in range(many):
        names = sorted(chance.sample(NAMES, chance.randint(0, 3)))
        sections = [(name, chance.randint(1, 5), chance.randint(1, 3), ("e",
                                                                        "be")[:chance.randint(1, 2)]) for name in names]
        base = ((6, 5, tuple(sections)), LEXICON, FOLLOW, TURNS)
        pages = small_pages(chance, chance.randint(0, 25))
        roll = tuple(sorted(set(pages), key=stand))
        yield base, roll, (chance.randint(0, 3), chance.randint(0, 2))
