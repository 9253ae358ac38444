"""What sum_of refuses ahead of the sum, and in which order it looks."""

import itertools
import unittest

from abacusbooks.books import sum_of
from makers import EACH_DECK, LARGEST, SOROBAN, SUANPAN, right_book

BOOK = right_book(SOROBAN)
LARGEST_V = 2037035976334486086268445688409378161051468393665936250636140449354381299763336706183397375
NO_ROD = [-1]
NOT_BELOW_THE_SPAN = [-4]
NOT_IN_FORM = [-3]


def call(op=0, order=0, h=0, v=0, make=SUANPAN * 3, hand=EACH_DECK, standing=(0,) * 9, book=BOOK):
    return sum_of(op, order, h, v, list(make), list(hand), list(standing), book)


class Order(unittest.TestCase):
    # Of each argument: one that can be, and others, each with what is refused for it; in the order of the looks.
    LOOKS = (
        ("make", ((SUANPAN * 3, None), ([], [-5, 1, 0]), (SUANPAN + [21] + SUANPAN[1:] + SUANPAN, [-5, 2, 1]))),
        ("hand", ((EACH_DECK, None), ([], [-5, 6, 0]), (EACH_DECK + [0] * 7, [-5, 7, 6]))),
        ("standing", (([0] * 9, None), ([0] * 8, [-5, 5, 8]), ([0] * 7 + [3, 0], [-5, 5, 7]),
                      ([0] * 6 + [5, 0, 0], NOT_IN_FORM))),
        ("book", ((BOOK, None), ([[]], [-5, 9, 0]), (BOOK + BOOK[-1:], [-5, 9, 180]))),
        ("h", ((2, None), (3, NO_ROD))),
        ("op", ((1, None), (2, NO_ROD))),
        ("order", ((1, None), (2, NO_ROD))),
        ("v", ((0, None), (1000, NOT_BELOW_THE_SPAN))),
    )
    FIRST = ("make", "hand", "standing", "book")

    def expected(self, refusals):
        """The fault that comes first by argument, else -1, else -4, else -3."""
        faults = [refusals[name] for name in self.FIRST if refusals[name] and refusals[name][0] == -5]
        if faults:
            return faults[0]
        for refusal in (NO_ROD, NOT_BELOW_THE_SPAN, NOT_IN_FORM):
            if refusal in refusals.values():
                return refusal
        return [0, 0] + [0] * 9

    def test_each_choice_of_what_is_wrong_at_once(self):
        names = [name for name, choices in self.LOOKS]
        for picked in itertools.product(*[choices for name, choices in self.LOOKS]):
            given = {name: choice[0] for name, choice in zip(names, picked)}
            refusals = {name: choice[1] for name, choice in zip(names, picked)}
            with self.subTest(refusals=refusals):
                self.assertEqual(call(**given), self.expected(refusals))

    def test_they_come_ahead_of_how_the_sum_ends(self):
        # Where nothing is refused, it goes wrong or runs over.
        for book, v, end in (([[0, 1, 0, 31, 1, 0]], 1, [-9]), ([[0, 1, 0, 0, 0, 0]], 1, [-6])):
            with self.subTest(end=end):
                self.assertEqual(call(v=v, book=book), end)
                self.assertEqual(call(v=v, book=book, standing=[0] * 6 + [5, 0, 0]), NOT_IN_FORM)
                self.assertEqual(call(v=v + 1000, book=book), NOT_BELOW_THE_SPAN)
                self.assertEqual(call(v=v, book=book, h=3), NO_ROD)

    def test_a_make_that_cannot_be_is_told_whatever_the_standing(self):
        for standing in ([], [0], [0] * 3, [LARGEST] * 250):
            for make, rule in (([], 1), ([10], 1), ([LARGEST] * 500, 1), ([LARGEST] * 7, 2), ([0] * 448, 2)):
                with self.subTest(standing=standing, make=make):
                    self.assertEqual(call(make=make, standing=standing), [-5, rule, 0])

    def test_makes_that_break_each_rule(self):
        for make, rule, place in (([2, 15, 63, 0, 0, 0, 0], 3, 0), (SUANPAN + [10, 8, 1, 0, 0, 0, 0], 4, 1)):
            with self.subTest(make=make):
                self.assertEqual(call(make=make, hand=[], standing=[], book=[[]], h=9, v=LARGEST_V), [-5, rule, place])

    def test_everything_as_large_as_can_be(self):
        book = [[LARGEST] * 36] * 820
        rest = {"op": LARGEST, "order": LARGEST, "h": LARGEST, "v": LARGEST_V}
        lists = {"make": [LARGEST] * 500, "hand": [LARGEST] * 300, "standing": [LARGEST] * 250, "book": book}
        self.assertEqual(sum_of(**lists, **rest), [-5, 1, 0])
        self.assertEqual(call(hand=[LARGEST] * 300, standing=[LARGEST] * 250, book=book, **rest), [-5, 6, 0])
        self.assertEqual(call(standing=[LARGEST] * 250, book=book, **rest), [-5, 5, 250])
        self.assertEqual(call(book=book, **rest), [-5, 9, 0])
        self.assertEqual(call(**rest), NO_ROD)


class NoRod(unittest.TestCase):
    def test_h(self):
        for rods in (1, 2, 3, 63, 64):
            standing = [0] * (3 * rods)
            for h in range(rods):
                self.assertEqual(call(h=h, make=SUANPAN * rods, standing=standing), [0, 0] + standing)
            for h in (rods, rods + 1, 64, 65, 255, 256, 65536, 4294967232, LARGEST):
                if h >= rods:
                    with self.subTest(rods=rods, h=h):
                        self.assertEqual(call(h=h, make=SUANPAN * rods, standing=standing), NO_ROD)

    def test_op_and_order(self):
        for number in (0, 1):
            self.assertEqual(call(op=number), [0, 0] + [0] * 9)
            self.assertEqual(call(order=number), [0, 0] + [0] * 9)
        for number in (2, 3, 255, 256, 65536, 4294967294, LARGEST):
            with self.subTest(number=number):
                self.assertEqual(call(op=number), NO_ROD)
                self.assertEqual(call(order=number), NO_ROD)
                self.assertEqual(call(op=number, order=number, h=number), NO_ROD)


class Span(unittest.TestCase):
    MAKES = ([2, 1, 1, 0, 0, 0, 0], [20, 4, 1, 3, 5, 0, 0], SOROBAN, SOROBAN * 2, SOROBAN * 64,
             [2, 1, 1, 0, 0, 0, 0] + SOROBAN, SOROBAN + [2, 1, 1, 0, 0, 0, 0] + [7, 6, 1, 0, 0, 0, 0],
             [2, 1, 1, 0, 0, 0, 0] * 64, [20, 4, 1, 3, 5, 0, 0] * 64)
    SPANS = (2, 20, 10, 100, 10 ** 64, 20, 140, 2 ** 64, 20 ** 64)

    def test_the_span_and_just_below(self):
        for make, span in zip(self.MAKES, self.SPANS):
            standing = [0] * (len(make) // 7 * 3)
            for v in (0, 1, span - 1):
                with self.subTest(make=make, v=v):
                    self.assertEqual(call(v=v, make=make, standing=standing, book=[]), [0, 0] + standing)
            for v in (span, span + 1, 2 * span, LARGEST_V):
                with self.subTest(make=make, v=v):
                    self.assertEqual(call(v=v, make=make, standing=standing, book=[]), NOT_BELOW_THE_SPAN)
                    self.assertEqual(call(op=1, v=v, make=make, standing=standing, book=[]), NOT_BELOW_THE_SPAN)

    def test_what_stands_there_does_not_count(self):
        nines = [4, 1, 0] * 3
        self.assertEqual(call(v=999, standing=nines, book=[]), [0, 0] + nines)
        self.assertEqual(call(v=1000, standing=nines, book=[]), NOT_BELOW_THE_SPAN)


if __name__ == "__main__":
    unittest.main()
