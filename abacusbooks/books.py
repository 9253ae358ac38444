"""The calls."""

from abacusbooks.best_rules import NoActsLeadThere, TooManySteps, best_rules
from abacusbooks.faults import book_fault, first_fault, hand_fault, make_fault, standing_fault
from abacusbooks.frames import Frame, in_one_list
from abacusbooks.hands import tour_cost
from abacusbooks.rods import rods_of, span_of
from abacusbooks.rules import first_wrong_rule
from abacusbooks.sums import GoesWrong, RunsOver, TooLong, acts_of_sum


def book(book):
    """Answer 0 if it's a book, else -5 and the fault's rule and place."""
    fault = book_fault(book)
    if fault is None:
        return [0]
    return [-5] + fault


def right(make, hand, book):
    """Answer 1 if the book is right on the make, else 0, the first rod, op, d, x for which it isn't, and why."""
    fault = first_fault([make_fault(make), hand_fault(hand), book_fault(book)])
    if fault is not None:
        return [-5] + fault
    wrong = first_wrong_rule(make, hand, book)
    if wrong is None:
        return [1]
    return [0] + wrong


def sum_of(op, order, h, v, make, hand, standing, book):
    """Answer 0, what the acts of the sum cost, the standing then, and the acts; else why there's no sum."""
    fault = first_fault([make_fault(make), hand_fault(hand)])
    if fault is None:
        # Only a make that can be tells how long a standing is.
        fault = first_fault([standing_fault(make, standing), book_fault(book)])
    if fault is not None:
        return [-5] + fault
    if h >= len(rods_of(make)) or op > 1 or order > 1:
        return [-1]
    if v >= span_of(make):
        return [-4]
    frame = Frame(make, standing)
    if not frame.is_in_form():
        return [-3]
    try:
        acts = acts_of_sum(op, order, v, make, hand, book, frame)
    except GoesWrong:
        return [-9]
    except RunsOver:
        return [-6]
    except TooLong:
        return [-8]
    return [0, tour_cost(hand, h, acts)] + frame.as_standing() + in_one_list(acts)


def best(rod, where, make, hand):
    """Answer 0 and the best book for a rod, rule by rule; else why there's none, and the first op, d, x it's so for."""
    fault = first_fault([make_fault(make), hand_fault(hand)])
    if fault is not None:
        return [-5] + fault
    rods = rods_of(make)
    if rod >= len(rods) or where > 1:
        return [-1]
    try:
        rules = best_rules(rods[rod], where, hand)
    except NoActsLeadThere as refused:
        return [-2] + refused.head
    except TooManySteps as refused:
        return [-8] + refused.head
    return [0] + rules
