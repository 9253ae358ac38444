"""What several tests make their inputs with; it takes nothing from the package."""

import functools
import itertools

LARGEST = 4294967295
CARRY = [0, 0, 0]
TO_THE_BEAM, AWAY = 1, 2

SOROBAN = [10, 4, 1, 1, 5, 0, 0]
SUANPAN = [10, 5, 1, 2, 5, 0, 0]
# Each deck by itself, up to all its beads, in either direction: any standing leads to any other.
EACH_DECK = [7] + [number for deck in range(3) for direction in (TO_THE_BEAM, AWAY)
                   for number in (deck, direction, 15, 0, 0, 0, 1)]


def act_on(deck, direction, n):
    """An act of EACH_DECK."""
    return [2 * deck + direction - 1, n, 0]


def beads(rod):
    return rod[1::2]


def form(rod, digit):
    """A digit's form, by looking at all ways to push beads; None if it can't be pushed."""
    return form_of_rod(tuple(rod), digit)


@functools.lru_cache(maxsize=None)
def form_of_rod(rod, digit):
    ways = [way for way in itertools.product(*[range(number + 1) for number in beads(rod)])
            if sum(pushed * worth for pushed, worth in zip(way, rod[2::2])) == digit]
    return min(ways, key=lambda way: (sum(way), -way[0], -way[1]), default=None)


def acts_between(start, goal):
    """Acts of EACH_DECK from one way to push beads to another."""
    acts = []
    for deck in range(3):
        if goal[deck] > start[deck]:
            acts.append(act_on(deck, TO_THE_BEAM, goal[deck] - start[deck]))
        if goal[deck] < start[deck]:
            acts.append(act_on(deck, AWAY, start[deck] - goal[deck]))
    return acts


def rule_row(rod, op, d, x, carry_at=0):
    """A right rule's row for a hand that begins with the strokes of EACH_DECK; the carry stands ahead of that act."""
    ratio = rod[0]
    due = x - d if op else x + d
    steps = acts_between(form(rod, x), form(rod, due % ratio))
    if not 0 <= due < ratio:
        steps.insert(carry_at, CARRY)
    return [op, d, x] + sum(steps, [])


def right_book(rod, carry_at=0):
    ratio = rod[0]
    return [rule_row(rod, op, d, x, carry_at) for op in range(2) for d in range(1, ratio) for x in range(ratio)]


def with_row(book, row):
    """The book with this row in the place of its own for the same op, d, x."""
    return [row if row[:3] == other[:3] else other for other in book]


def without_row(book, head):
    return [row for row in book if row[:3] != head]
