"""The best book for a rod: each rule by the first of the cheapest tours on the rod by itself."""

from abacusbooks.rods import ratio_of
from abacusbooks.rules import ADD, CARRY, MOST_STEPS, TAKE_AWAY, carries_due, due_on
from abacusbooks.tours import Tours

CARRY_FIRST = 0


class NoActsLeadThere(Exception):
    """For this op, d, x there's no tour."""

    def __init__(self, op, d, x):
        self.head = [op, d, x]


class TooManySteps(Exception):
    """For this op, d, x the rule would have more steps than a rule may have."""

    def __init__(self, op, d, x):
        self.head = [op, d, x]


def best_rules(rod, where, hand):
    """Tell each rule of the best book, number by number: op, d, x, how many steps, the steps."""
    tours = Tours(rod, hand)
    told = []
    for op in (ADD, TAKE_AWAY):
        for d in range(1, ratio_of(rod)):
            for x in range(ratio_of(rod)):
                steps = best_steps(tours, where, op, d, x)
                told.extend([op, d, x, len(steps)])
                for step in steps:
                    told.extend(step)
    return told


def best_steps(tours, where, op, d, x):
    """Tell the steps of one rule of the best book."""
    due = due_on(op, d, x)
    ratio = ratio_of(tours.rod)
    acts = tours.first_tour(x, due % ratio)
    if acts is None:
        raise NoActsLeadThere(op, d, x)
    carries = [CARRY] * carries_due(due, ratio)
    if len(acts) + len(carries) > MOST_STEPS:
        raise TooManySteps(op, d, x)
    if where == CARRY_FIRST:
        return carries + acts
    return acts + carries
