"""Rods: a make cut into them, its span, and the forms of a rod's digits."""

NUMBERS_A_ROD = 7
DECKS = 3
MOST_BEADS = 15


def rods_of(make):
    """Cut a make into its rods, seven numbers each."""
    return [make[start:start + NUMBERS_A_ROD] for start in range(0, len(make), NUMBERS_A_ROD)]


def ratio_of(rod):
    """Tell how many of the rod's units are one of the next rod's."""
    return rod[0]


def beads_of(rod, deck):
    """Tell how many beads a deck has, 0 where there's none."""
    return rod[1 + 2 * deck]


def worth_of(rod, deck):
    """Tell what each bead of a deck is worth, 0 where there's none."""
    return rod[2 + 2 * deck]


def span_of(make):
    """Tell the product of all ratios: the first value that has no digits."""
    span = 1
    for rod in rods_of(make):
        span *= ratio_of(rod)
    return span


def digits_of(value, make):
    """Tell the digits of a value below the span, from rod 0 on."""
    digits = []
    left = value
    for rod in rods_of(make):
        digits.append(left % ratio_of(rod))
        left //= ratio_of(rod)
    return digits


def worth_together(rod):
    """Tell what all beads of a rod are worth."""
    return sum([beads_of(rod, deck) * worth_of(rod, deck) for deck in range(DECKS)])


def goes_before(way, other):
    """Tell whether of two ways to push one count the first is nearer to the digit's form."""
    if sum(way) != sum(other):
        return sum(way) < sum(other)
    return way > other


def digit_forms(rod):
    """Tell the form of each digit that can be pushed: how many beads of each deck, by digit."""
    forms = {0: []}
    for deck in range(DECKS):
        forms = forms_with_deck(rod, deck, forms)
    return forms


def forms_with_deck(rod, deck, forms):
    """Tell the forms with beads of one deck more, from those with beads of the decks ahead of it."""
    longer = {}
    for digit, form in forms.items():
        for more in range(beads_of(rod, deck) + 1):
            grown = digit + more * worth_of(rod, deck)
            if grown >= ratio_of(rod):
                break
            way = form + [more]
            # Beads of later decks weigh the same on each way to push a count, so the best one so far stays the best.
            if grown not in longer or goes_before(way, longer[grown]):
                longer[grown] = way
    return longer


def digits_by_form(rod):
    """Tell which digit is pushed in which form: the digits, by how many beads of each deck."""
    digits = {}
    for digit, form in digit_forms(rod).items():
        digits[tuple(form)] = digit
    return digits
