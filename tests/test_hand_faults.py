"""A hand's fault, as right tells it, and which of several faults is told."""

import unittest

from abacusbooks.books import right
from makers import LARGEST, SOROBAN

# What an empty book is told with a hand that can be: nothing is done where 1 is to be added to 0.
CAN_BE = [0, 0, 0, 1, 0, 2]
ONE_DECK = [0, 1, 4, 0, 0, 0, 1]
TWO_DECKS = [0, 1, 4, 1, 2, 1, 3]


def look(hand):
    return right(SOROBAN, hand, [])


def fault(rule, place=0):
    return [-5, rule, place]


class Whole(unittest.TestCase):
    def test_no_number(self):
        self.assertEqual(look([]), fault(6))

    def test_no_strokes(self):
        for over in (0, 1, 255):
            with self.subTest(over=over):
                self.assertEqual(look([over]), CAN_BE)

    def test_what_moving_over_costs(self):
        for over in (0, 1, 254, 255):
            with self.subTest(over=over):
                self.assertEqual(look([over] + ONE_DECK), CAN_BE)
        for over in (256, 257, 511, 512, 65536, LARGEST):
            with self.subTest(over=over):
                self.assertEqual(look([over]), fault(6))
                self.assertEqual(look([over] + ONE_DECK), fault(6))

    def test_not_seven_numbers_a_stroke(self):
        for length in range(1, 226):
            with self.subTest(length=length):
                expected = CAN_BE if length % 7 == 1 else fault(6)
                self.assertEqual(look(([0] + ONE_DECK * 32)[:length]), expected)

    def test_each_number_of_strokes(self):
        for strokes in range(43):
            with self.subTest(strokes=strokes):
                expected = CAN_BE if strokes <= 32 else fault(6)
                self.assertEqual(look([0] + ONE_DECK * strokes), expected)

    def test_the_longest_list(self):
        self.assertEqual(look([0] * 300), fault(6))
        self.assertEqual(look([LARGEST] * 300), fault(6))

    def test_it_comes_ahead_of_the_strokes(self):
        bad = [3] + ONE_DECK[1:]
        self.assertEqual(look([256] + bad), fault(6))
        self.assertEqual(look([0] + bad + [1]), fault(6))
        self.assertEqual(look([0] + bad * 33), fault(6))
        self.assertEqual(look([0] + bad * 32), fault(7))


class Strokes(unittest.TestCase):
    def check(self, stroke, expected):
        with self.subTest(stroke=stroke):
            self.assertEqual(look([0] + stroke), expected)

    def check_number(self, stroke, at, can, cannot):
        for number in can:
            self.check(stroke[:at] + [number] + stroke[at + 1:], CAN_BE)
        for number in cannot:
            self.check(stroke[:at] + [number] + stroke[at + 1:], fault(7))

    def test_all_zero(self):
        self.check([0] * 7, fault(7))

    def test_the_deck(self):
        self.check_number(ONE_DECK, 0, (0, 1, 2), (3, 4, 255, 256, 65536, LARGEST))

    def test_the_direction(self):
        for stroke in (ONE_DECK, TWO_DECKS):
            self.check_number(stroke, 1, (1, 2), (0, 3, 4, 255, 257, LARGEST))

    def test_the_most(self):
        for stroke in (ONE_DECK, TWO_DECKS):
            self.check_number(stroke, 2, range(1, 16), (0, 16, 17, 31, 256, 257, LARGEST))

    def test_the_cost(self):
        for stroke in (ONE_DECK, TWO_DECKS):
            self.check_number(stroke, 6, (1, 2, 254, 255), (0, 256, 257, 511, 65537, LARGEST))

    def test_the_second_deck(self):
        self.check_number(TWO_DECKS, 3, (1, 2), (0, 3, 4, 255, 256, 257, LARGEST))

    def test_the_second_direction(self):
        self.check_number(TWO_DECKS, 4, (1, 2), (0, 3, 4, 255, 257, LARGEST))

    def test_the_second_most(self):
        self.check_number(TWO_DECKS, 5, range(1, 16), (0, 16, 17, 31, 256, 257, LARGEST))

    def test_each_two_decks(self):
        for deck in range(3):
            for second in range(3):
                expected = fault(7) if deck == second else CAN_BE
                self.check([deck, 1, 4, second, 2, 1, 3], expected)
                self.check([deck, 2, 15, second, 2, 15, 255], expected)

    def test_deck_0_as_the_second(self):
        self.check([1, 1, 4, 0, 1, 1, 1], CAN_BE)
        self.check([2, 1, 4, 0, 2, 15, 1], CAN_BE)
        self.check([0, 1, 4, 0, 1, 1, 1], fault(7))
        self.check([0, 1, 4, 0, 2, 4, 1], fault(7))

    def test_no_second_deck_whatever_the_first(self):
        for deck in range(3):
            self.check([deck, 2, 15, 0, 0, 0, 255], CAN_BE)

    def test_parts_of_a_second_deck_alone(self):
        for second in ([1, 0, 0], [2, 0, 0], [0, 1, 0], [0, 2, 0], [0, 0, 1], [0, 0, 15], [1, 1, 0], [1, 2, 0],
                       [1, 0, 1], [2, 0, 15], [0, 1, 1], [0, 2, 15]):
            self.check([0, 1, 4] + second + [1], fault(7))
        for second in ([1, 0, 0], [2, 0, 0], [0, 1, 0], [0, 0, 1], [1, 1, 1], [2, 1, 0], [2, 0, 1]):
            self.check([1, 1, 4] + second + [1], fault(7))

    def test_decks_that_are_not_there_on_a_rod(self):
        self.check([2, 1, 15, 0, 0, 0, 1], CAN_BE)
        self.check([2, 1, 15, 1, 2, 15, 1], CAN_BE)

    def test_all_numbers_as_large_as_can_be(self):
        self.check([LARGEST] * 7, fault(7))


class Place(unittest.TestCase):
    BAD = ([3, 1, 4, 0, 0, 0, 1], [0, 0, 4, 0, 0, 0, 1], [0, 1, 0, 0, 0, 0, 1], [0, 1, 4, 0, 1, 1, 1],
           [0, 1, 4, 1, 0, 0, 1], [0, 1, 4, 0, 0, 0, 0])

    def test_each_stroke_by_itself(self):
        for place in range(32):
            for bad in self.BAD:
                with self.subTest(place=place, bad=bad):
                    hand = [0] + ONE_DECK * place + bad + TWO_DECKS * (31 - place)
                    self.assertEqual(look(hand), fault(7, place))

    def test_the_first_of_several(self):
        for bad in self.BAD:
            for other in self.BAD:
                with self.subTest(bad=bad, other=other):
                    self.assertEqual(look([0] + ONE_DECK * 2 + bad + TWO_DECKS + other), fault(7, 2))


class WhichFault(unittest.TestCase):
    MAKES = (([], [1, 0]), (SOROBAN + [21] + SOROBAN[1:], [2, 1]), (SOROBAN * 2 + [10, 8, 1, 0, 0, 0, 0], [4, 2]),
             ([2, 15, 63, 0, 0, 0, 0], [3, 0]), (SOROBAN, None))
    HANDS = (([], [6, 0]), ([256], [6, 0]), ([0] + ONE_DECK * 3 + [0] * 7, [7, 3]), ([0] + ONE_DECK, None))
    BOOKS = (([[]], [9, 0]), ([[0, 1, 0], [0, 1, 1], [0, 1, 0]], [9, 2]), ([[0, 1, 0], [2, 1, 0]], [9, 1]), ([], None))

    def test_the_makes_the_hands_the_books(self):
        for make, of_make in self.MAKES:
            for hand, of_hand in self.HANDS:
                for book, of_book in self.BOOKS:
                    told = of_make or of_hand or of_book
                    with self.subTest(make=make, hand=hand, book=book):
                        self.assertEqual(right(make, hand, book), [-5] + told if told else CAN_BE)

    def test_a_books_fault_in_a_row_that_no_rod_asks_for(self):
        self.assertEqual(right(SOROBAN, [0], [[0, 19, 19], [0, 20, 19]]), fault(9, 1))
        self.assertEqual(right(SOROBAN, [0], [[0, 0, 0], [0, 19, 19, 32, 1, 0]]), fault(9, 1))
        self.assertEqual(right(SOROBAN, [0], [[0, 19, 19], [0, 19, 19]]), fault(9, 1))

    def test_a_stroke_that_the_hand_has_not_is_no_fault_of_the_book(self):
        self.assertEqual(right(SOROBAN, [0], [[0, 19, 19, 31, 15, 15]]), CAN_BE)

    def test_everything_as_large_and_as_long_as_can_be(self):
        book = [[LARGEST] * 36 for unused in range(820)]
        self.assertEqual(right([LARGEST] * 500, [LARGEST] * 300, book), fault(1))
        self.assertEqual(right([LARGEST] * 448, [LARGEST] * 300, book), fault(2))
        self.assertEqual(right(SOROBAN * 64, [LARGEST] * 300, book), fault(6))
        self.assertEqual(right(SOROBAN * 64, [255] + [LARGEST] * 224, book), fault(7))
        self.assertEqual(right(SOROBAN * 64, [255] + ONE_DECK * 32, book), fault(9))


if __name__ == "__main__":
    unittest.main()
