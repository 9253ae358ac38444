"""The calls."""

from abacusbooks.faults import book_fault


def book(book):
    """Answer 0 if it's a book, else -5 and the fault's rule and place."""
    fault = book_fault(book)
    if fault is None:
        return [0]
    return [-5] + fault
