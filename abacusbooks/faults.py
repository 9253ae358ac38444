"""What is wrong with what is handed in: a fault is a list of its rule and its place, None if there is none."""

from abacusbooks.hands import NUMBERS_A_STROKE, cost_of, first_part, second_part, strokes_of
from abacusbooks.rods import DECKS, MOST_BEADS, NUMBERS_A_ROD, beads_of, digit_forms, ratio_of, rods_of, worth_of
from abacusbooks.rods import worth_together
from abacusbooks.rules import MOST_STEPS

MAKE_LENGTH_RULE = 1
ROD_RULE = 2
WORTH_TOGETHER_RULE = 3
DIGITS_RULE = 4
STANDING_RULE = 5
HAND_RULE = 6
STROKE_RULE = 7
BOOK_RULE = 9
MOST_RODS = 64
LOWEST_RATIO = 2
HIGHEST_RATIO = 20
HIGHEST_WORTH = 63
HIGHEST_WORTH_TOGETHER = 255
MOST_STROKES = 32
HIGHEST_DIRECTION = 2
HIGHEST_COST = 255
HIGHEST_OP = 1
HIGHEST_DIGIT = 19
HIGHEST_STROKE = 31


def first_fault(faults):
    """Tell the first that is one, None if none is."""
    for fault in faults:
        if fault is not None:
            return fault
    return None


def make_fault(make):
    """Tell what is wrong with a make: its length, or its first rod that can't be."""
    if len(make) % NUMBERS_A_ROD != 0 or not 1 <= len(make) // NUMBERS_A_ROD <= MOST_RODS:
        return [MAKE_LENGTH_RULE, 0]
    for place, rod in enumerate(rods_of(make)):
        rule = rule_broken(rod)
        if rule is not None:
            return [rule, place]
    return None


def rule_broken(rod):
    """Tell the first rule that a rod breaks, None if it keeps them all."""
    if not rod_can_be(rod):
        return ROD_RULE
    if worth_together(rod) > HIGHEST_WORTH_TOGETHER:
        return WORTH_TOGETHER_RULE
    if len(digit_forms(rod)) < ratio_of(rod):
        return DIGITS_RULE
    return None


def rod_can_be(rod):
    """Look at each number of a rod, and at which decks are there."""
    if not LOWEST_RATIO <= ratio_of(rod) <= HIGHEST_RATIO:
        return False
    for deck in range(DECKS):
        if not deck_can_be(beads_of(rod, deck), worth_of(rod, deck)):
            return False
    if beads_of(rod, 0) == 0:
        return False
    return beads_of(rod, 2) == 0 or beads_of(rod, 1) > 0


def deck_can_be(beads, worth):
    """Look at a deck by itself: it may be none."""
    if beads == 0 or worth == 0:
        return beads == worth
    return beads <= MOST_BEADS and worth <= HIGHEST_WORTH


def standing_fault(make, standing):
    """Tell what is wrong with a standing on a make that can be: its length, or its first number above the beads."""
    rods = rods_of(make)
    if len(standing) != DECKS * len(rods):
        return [STANDING_RULE, len(standing)]
    for place, pushed in enumerate(standing):
        if pushed > beads_of(rods[place // DECKS], place % DECKS):
            return [STANDING_RULE, place]
    return None


def hand_fault(hand):
    """Tell what is wrong with a hand as a whole, or its first stroke that can't be."""
    if not hand_can_be(hand):
        return [HAND_RULE, 0]
    for place, stroke in enumerate(strokes_of(hand)):
        if not stroke_can_be(stroke):
            return [STROKE_RULE, place]
    return None


def hand_can_be(hand):
    """Look at what moving over costs, and at how many numbers there are behind it."""
    if len(hand) == 0 or hand[0] > HIGHEST_COST:
        return False
    behind = len(hand) - 1
    return behind % NUMBERS_A_STROKE == 0 and behind // NUMBERS_A_STROKE <= MOST_STROKES


def stroke_can_be(stroke):
    """Look at a stroke's parts, and at its cost."""
    first = first_part(stroke)
    second = second_part(stroke)
    if not part_can_be(first) or not 1 <= cost_of(stroke) <= HIGHEST_COST:
        return False
    return second == [0, 0, 0] or (part_can_be(second) and second[0] != first[0])


def part_can_be(part):
    """Look at a deck, its direction and how many beads at most."""
    return part[0] < DECKS and 1 <= part[1] <= HIGHEST_DIRECTION and 1 <= part[2] <= MOST_BEADS


def book_fault(book):
    """Tell the first row that can't be, or that tells a rule once more."""
    told = {}
    for place, row in enumerate(book):
        if not row_can_be(row):
            return [BOOK_RULE, place]
        rule = (row[0], row[1], row[2])
        if rule in told:
            return [BOOK_RULE, place]
        told[rule] = True
    return None


def row_can_be(row):
    """Look at a row by itself."""
    return length_can_be(len(row)) and head_can_be(row) and steps_can_be(row)


def length_can_be(length):
    """Op, d and x, then three numbers a step, none left over."""
    return 3 <= length <= 3 + 3 * MOST_STEPS and length % 3 == 0


def head_can_be(row):
    """Look at op, d and x."""
    return row[0] <= HIGHEST_OP and row[1] <= HIGHEST_DIGIT and row[2] <= HIGHEST_DIGIT


def steps_can_be(row):
    """Look at each step of a row that has no numbers left over."""
    for start in range(3, len(row), 3):
        if not step_can_be(row[start], row[start + 1], row[start + 2]):
            return False
    return True


def step_can_be(stroke, n, k):
    """Look at an act or a carry."""
    if n == 0:
        # An act pushes at least one bead, so n is 0 in a carry alone, and a carry is written 0 0 0.
        return stroke == 0 and k == 0
    return stroke <= HIGHEST_STROKE and n <= MOST_BEADS and k <= MOST_BEADS
