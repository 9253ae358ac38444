"""Hands: a hand cut into its strokes, acts done on a rod, and what a tour costs."""

from abacusbooks.rods import beads_of

NUMBERS_A_STROKE = 7
TO_THE_BEAM = 1


def strokes_of(hand):
    """Cut a hand into its strokes, seven numbers each, behind what moving over costs."""
    return [hand[start:start + NUMBERS_A_STROKE] for start in range(1, len(hand), NUMBERS_A_STROKE)]


def first_part(stroke):
    """Tell a stroke's deck, its direction and how many beads at most."""
    return stroke[0:3]


def second_part(stroke):
    """Tell the same of the second deck, 0 0 0 if there's none."""
    return stroke[3:6]


def cost_of(stroke):
    """Tell what a stroke costs."""
    return stroke[6]


def tour_cost(hand, h, acts):
    """Tell what acts cost one behind another, the hand being at rod h first."""
    strokes = strokes_of(hand)
    cost = 0
    at = h
    for act in acts:
        cost += cost_of(strokes[act[1]]) + hand[0] * abs(act[0] - at)
        at = act[0]
    return cost


def behind_act(rod, pushed, stroke, n, k):
    """Tell what is pushed on a rod behind an act, None if the act can't be done."""
    between = behind_part(rod, pushed, first_part(stroke), n)
    if between is None:
        return None
    if second_part(stroke) == [0, 0, 0]:
        return between if k == 0 else None
    # The second deck is never the first one, so one part takes nothing away from the other.
    return behind_part(rod, between, second_part(stroke), k)


def behind_part(rod, pushed, part, number):
    """Tell what is pushed behind a move of so many beads of one deck, None if it can't be done."""
    deck = part[0]
    to_the_beam = part[1] == TO_THE_BEAM
    ready = beads_of(rod, deck) - pushed[deck] if to_the_beam else pushed[deck]
    # A deck that isn't there has no bead ready, and at least one is wanted.
    if not 1 <= number <= min(part[2], ready):
        return None
    behind = list(pushed)
    behind[deck] += number if to_the_beam else -number
    return behind
