"""The calls."""

from abacusbooks.faults import book_fault, first_fault, hand_fault, make_fault
from abacusbooks.rules import first_wrong_rule


def book(book):
    """Answer 0 if it's a book, else -5 and the fault's rule and place."""
    fault = book_fault(book)
    if fault is None:
        return [0]
    return [-5] + fault


def right(make, hand, book):
    """Answer 1 if the book is right on the make, else 0, the first rod, op, d, x for which it isn't, and why."""
    fault = first_fault([make_fault(make), hand_fault(hand), book_fault(book)])
    if fault is not None:
        return [-5] + fault
    wrong = first_wrong_rule(make, hand, book)
    if wrong is None:
        return [1]
    return [0] + wrong
