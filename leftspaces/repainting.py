"""The fewest spaces painted ANEW, with PRICES by which there are no fewer [48], [50], [52]."""

from leftspaces.ranges import some_world
from leftspaces.repaints import many_anew, paint_cost

# Any number can have a LETTER that isn't BILLED, so all of these are one kind here.
FREE = ""


def fewest_repainted(cans, bill, painted):
    """A REPAINT PAPER: the fewest spaces painted ANEW, a WORLD with so many, and PRICES."""
    held = some_world(cans, bill)
    prices = None
    while prices is None:
        held, prices = bettered(cans, dict(bill), painted, held)
    return (many_anew(painted, held), held, paper_prices(bill, painted, held, prices))


def bettered(cans, many, painted, held):
    """A WORLD with fewer spaces ANEW, and None; where there is none the one told, and a price for each kind."""
    moves = all_moves(cans, many, painted, held)
    kinds = [FREE] + list(many)
    prices = {kind: 0 for kind in kinds}
    ways = {}
    # Were there no ring by which it is fewer, each price would be settled by fewer rounds than there are kinds.
    for _ in kinds:
        lowered = lower(prices, ways, moves)
        if lowered is None:
            return (held, prices)
    return (exchanged(held, ring_behind(ways, lowered)), None)


def all_moves(cans, many, painted, held):
    """Each way for a space to a LETTER of its CAN: between which kinds, how many more ANEW, the space, the LETTER."""
    moves = []
    for space, letter in enumerate(held):
        for other in cans[space]:
            more = paint_cost(painted, space, other) - paint_cost(painted, space, letter)
            moves.append((kind_of(many, letter), kind_of(many, other), more, space, other))
    return moves


def kind_of(many, letter):
    """The kind of a LETTER: a BILLED one is its own."""
    return letter if letter in many else FREE


def lower(prices, ways, moves):
    """Lower the price of each kind to which a move leads for less: the last such kind, None where there is none."""
    last = None
    for move in moves:
        kind, other, more, _, _ = move
        if prices[kind] + more < prices[other]:
            prices[other] = prices[kind] + more
            ways[other] = move
            last = other
    return last


def ring_behind(ways, kind):
    """Moves that lead from a kind round to itself, found behind one whose price was lowered in each round."""
    for _ in range(len(ways)):
        kind = ways[kind][0]
    ring = [ways[kind]]
    while ring[-1][0] != kind:
        ring.append(ways[ring[-1][0]])
    return ring


def exchanged(held, ring):
    """The WORLD behind the moves of a ring: of each kind one space goes, and one comes."""
    told = list(held)
    for _, _, _, space, letter in ring:
        told[space] = letter
    return tuple(told)


def paper_prices(bill, painted, held, prices):
    """PRICES for each space, and for each row of the BILL, by settled prices of kinds."""
    letters = {letter: prices[letter] - prices[FREE] for letter, _ in bill}
    spaces = [paint_cost(painted, space, letter) - letters.get(letter, 0) for space, letter in enumerate(held)]
    return (tuple(spaces), tuple([letters[letter] for letter, _ in bill]))
