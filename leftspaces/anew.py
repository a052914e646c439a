"""Which lines are written ANEW where a letter grows, and the fewest there can be, with PRICES [55], [56], [57]."""

from leftspaces.steps import is_kept, line_step, most_lines, priced_steps, resized


def anew_lines(section, lay, high, wide, newer):
    """The numbers of the lines ANEW from a LAY of a SECTION to a newer one of another size."""
    other = resized(section, high, wide)
    lines = max(len(lay), len(newer))
    return tuple([i for i in range(lines) if not is_kept(section, lay, other, i, line_step(newer, i))])


def fewest_anew(section, lay, high, wide, width=30, most=None):
    """The fewest lines ANEW of any LAY of another size, such a LAY, and PRICES by which there are no fewer."""
    other = resized(section, high, wide)
    most = most_lines(other, lay, width, most)
    lines = [priced_steps(section, lay, other, i, width, most) for i in range(max(most, len(lay)))]
    prices = least_prices(lines, len(section[3]))
    newer = cheapest_lay(lines, prices, high)
    return (prices[0][0], newer, prices)


def least_prices(lines, many):
    """PRICES: for each line and count the least that STEPS from there to all words cost."""
    # No way costs more than 1 a line, so one that leads to fewer words is dearer than each that leads to all.
    prices = [(len(lines) + 1,) * many + (0,)]
    for steps in reversed(lines):
        prices.append(prices_ahead(steps, prices[-1]))
    return tuple(reversed(prices))


def prices_ahead(steps, behind):
    """The prices of a line, by its STEPS and the prices of the next line."""
    # From each count there is the STEP without words, which costs no more than 1.
    told = [price + 1 for price in behind]
    for first, last, cost in steps:
        told[first] = min(told[first], behind[last] + cost)
    return tuple(told)


def cheapest_lay(lines, prices, high):
    """A LAY that goes by STEPS each of which costs just as much as its prices are apart."""
    counts = []
    count = 0
    for i, steps in enumerate(lines):
        count = max([last for first, last, cost in steps
                     if first == count and prices[i][first] == prices[i + 1][last] + cost])
        counts.append(count)
    # Void lines behind the last words are lines of the LAY only beside the SPACE.
    return tuple(counts[:max(high, counts.index(count) + 1)])
