"""Rods: a make cut into them, and the forms of a rod's digits."""

NUMBERS_A_ROD = 7
DECKS = 3


def rods_of(make):
    """Cut a make into its rods, seven numbers each."""
    return [make[start:start + NUMBERS_A_ROD] for start in range(0, len(make), NUMBERS_A_ROD)]


def ratio_of(rod):
    """Tell how many of the rod's units are one of the next rod's."""
    return rod[0]


def beads_of(rod, deck):
    """Tell how many beads a deck has, 0 where there's none."""
    return rod[1 + 2 * deck]


def worth_of(rod, deck):
    """Tell what each bead of a deck is worth, 0 where there's none."""
    return rod[2 + 2 * deck]


def worth_together(rod):
    """Tell what all beads of a rod are worth."""
    return sum([beads_of(rod, deck) * worth_of(rod, deck) for deck in range(DECKS)])


def ways_below_ratio(rod):
    """List all ways to push a count below the ratio: the count, and how many beads of each deck."""
    ways = [(0, [])]
    for deck in range(DECKS):
        longer = []
        for count, pushed in ways:
            for more in range(beads_of(rod, deck) + 1):
                grown = count + more * worth_of(rod, deck)
                # Dropped at once: three decks of 15 beads have many more ways than a ratio of 20 leaves.
                if grown < ratio_of(rod):
                    longer.append((grown, pushed + [more]))
        ways = longer
    return ways


def goes_before(way, other):
    """Tell whether of two ways to push one count the first is nearer to the digit's form."""
    if sum(way) != sum(other):
        return sum(way) < sum(other)
    return way > other


def digit_forms(rod):
    """Tell the form of each digit that can be pushed: how many beads of each deck, by digit."""
    forms = {}
    for digit, way in ways_below_ratio(rod):
        if digit not in forms or goes_before(way, forms[digit]):
            forms[digit] = way
    return forms
