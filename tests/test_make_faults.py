"""A make's fault, as right tells it."""

import unittest

from abacusbooks.books import right
from makers import EACH_DECK, LARGEST, SOROBAN, SUANPAN, right_book

# What an empty book is told on a make that can be: nothing is done where 1 is to be added to 0.
CAN_BE = [0, 0, 0, 1, 0, 2]


def look(make):
    return right(make, [0], [])


def fault(rule, place=0):
    return [-5, rule, place]


class Length(unittest.TestCase):
    def test_no_number(self):
        self.assertEqual(look([]), fault(1))

    def test_not_seven_numbers_a_rod(self):
        for length in (1, 2, 3, 4, 5, 6, 8, 9, 13, 15, 20, 22, 441 - 1, 441 + 1, 448 - 1, 448 + 1, 454, 456):
            with self.subTest(length=length):
                self.assertEqual(look((SOROBAN * 72)[:length]), fault(1))

    def test_each_number_of_rods(self):
        for rods in range(1, 65):
            with self.subTest(rods=rods):
                self.assertEqual(look(SOROBAN * rods), CAN_BE)

    def test_sixty_four_rods_and_more(self):
        self.assertEqual(look(SOROBAN * 64), CAN_BE)
        for rods in range(65, 72):
            with self.subTest(rods=rods):
                self.assertEqual(look(SOROBAN * rods), fault(1))

    def test_the_longest_list(self):
        self.assertEqual(look([0] * 500), fault(1))
        self.assertEqual(look([LARGEST] * 500), fault(1))

    def test_the_length_comes_ahead_of_the_rods(self):
        self.assertEqual(look([0] * 7 + [1]), fault(1))
        self.assertEqual(look([0] * 455), fault(1))
        self.assertEqual(look([0] * 448), fault(2))


class Numbers(unittest.TestCase):
    def check(self, rods, expected):
        for rod in rods:
            with self.subTest(rod=rod):
                self.assertEqual(look(rod), expected)

    def test_all_zero(self):
        self.check([[0] * 7, [10, 0, 0, 0, 0, 0, 0]], fault(2))

    def test_deck_0_without_beads(self):
        self.check([[2, 0, 0, 1, 1, 0, 0], [2, 0, 1, 1, 1, 0, 0], [10, 0, 0, 4, 1, 1, 5]], fault(2))

    def test_one_two_and_three_decks(self):
        self.check([[2, 1, 1, 0, 0, 0, 0], [2, 1, 1, 1, 1, 0, 0], [2, 1, 1, 1, 1, 1, 1]], CAN_BE)

    def test_beads_in_deck_2_and_none_in_deck_1(self):
        self.check([[2, 1, 1, 0, 0, 1, 1], [10, 4, 1, 0, 0, 1, 5], [2, 1, 1, 0, 1, 1, 1]], fault(2))

    def test_worth_without_beads(self):
        self.check([[2, 0, 1, 0, 0, 0, 0], [2, 1, 1, 0, 1, 0, 0], [2, 1, 1, 0, 0, 0, 1], [2, 1, 1, 1, 1, 0, 1],
                    [2, 1, 1, 0, 63, 0, 0], [2, 1, 1, 1, 1, 0, LARGEST]], fault(2))

    def test_beads_without_worth(self):
        self.check([[2, 1, 0, 0, 0, 0, 0], [2, 1, 0, 1, 1, 0, 0], [2, 1, 1, 1, 0, 0, 0], [2, 1, 1, 1, 1, 1, 0],
                    [2, 1, 1, 15, 0, 0, 0], [2, 1, 1, 1, 1, LARGEST, 0]], fault(2))

    def test_the_ratio(self):
        rest = [4, 1, 15, 5, 0, 0]
        for ratio in range(2, 21):
            with self.subTest(ratio=ratio):
                self.assertEqual(look([ratio] + rest), CAN_BE)
        for ratio in (0, 1, 21, 22, 40, 255, 256, 258, 65538, LARGEST):
            with self.subTest(ratio=ratio):
                self.assertEqual(look([ratio] + rest), fault(2))

    def test_the_lowest_ratio_without_any_bead_to_spare(self):
        self.check([[2, 1, 1, 0, 0, 0, 0]], CAN_BE)
        self.check([[1, 1, 1, 0, 0, 0, 0]], fault(2))

    def test_the_beads_of_each_deck(self):
        for deck in range(3):
            for number in (1, 2, 14, 15):
                rod = [2, 1, 1, 1, 1, 1, 1]
                rod[1 + 2 * deck] = number
                self.check([rod], CAN_BE)
            for number in (16, 17, 31, 32, 255, 256, 257, 65537, LARGEST):
                rod = [2, 1, 1, 1, 1, 1, 1]
                rod[1 + 2 * deck] = number
                self.check([rod], fault(2))

    def test_the_worth_of_each_deck(self):
        for deck in range(3):
            for number in (1, 2, 62, 63):
                rod = [2, 1, 1, 1, 1, 1, 1]
                rod[2 + 2 * deck] = number
                self.check([rod], CAN_BE)
            for number in (64, 65, 127, 128, 255, 256, 257, 65537, LARGEST):
                rod = [2, 1, 1, 1, 1, 1, 1]
                rod[2 + 2 * deck] = number
                self.check([rod], fault(2))

    def test_most_of_both(self):
        self.check([[2, 1, 1, 4, 63, 0, 0], [2, 15, 1, 15, 1, 15, 1]], CAN_BE)

    def test_all_numbers_as_large_as_can_be(self):
        self.check([[LARGEST] * 7], fault(2))


class WorthTogether(unittest.TestCase):
    def check(self, rods, expected):
        for rod in rods:
            with self.subTest(rod=rod):
                self.assertEqual(look(rod), expected)

    def test_just_255(self):
        self.check([[2, 15, 1, 4, 60, 0, 0], [2, 15, 16, 15, 1, 0, 0], [2, 3, 1, 4, 63, 0, 0],
                    [20, 14, 1, 1, 1, 15, 16], [2, 1, 1, 1, 2, 4, 63], [2, 1, 63, 2, 1, 10, 19]], CAN_BE)

    def test_just_256(self):
        self.check([[2, 15, 17, 1, 1, 0, 0], [2, 4, 1, 4, 63, 0, 0], [2, 15, 1, 1, 1, 15, 16],
                    [2, 1, 1, 15, 1, 15, 16], [2, 1, 1, 1, 3, 4, 63], [2, 1, 63, 3, 1, 10, 19]], fault(3))

    def test_far_above(self):
        self.check([[2, 15, 63, 15, 63, 15, 63], [2, 1, 1, 15, 63, 0, 0], [20, 15, 1, 15, 1, 15, 63]], fault(3))

    def test_it_comes_ahead_of_what_cannot_be_pushed(self):
        self.check([[2, 15, 63, 0, 0, 0, 0], [10, 4, 1, 4, 63, 0, 0]], fault(3))

    def test_it_comes_behind_the_numbers(self):
        self.check([[21, 15, 63, 15, 63, 15, 63], [1, 15, 63, 0, 0, 0, 0], [2, 16, 63, 1, 1, 0, 0],
                    [2, 15, 64, 1, 1, 0, 0], [2, 15, 63, 0, 1, 0, 0]], fault(2))


class Pushed(unittest.TestCase):
    def check(self, rods, expected):
        for rod in rods:
            with self.subTest(rod=rod):
                self.assertEqual(look(rod), expected)

    def test_each_can_be_pushed(self):
        self.check([SOROBAN, SUANPAN, [10, 9, 1, 0, 0, 0, 0], [20, 4, 1, 3, 5, 0, 0], [20, 15, 1, 1, 4, 0, 0],
                    [16, 15, 1, 0, 0, 0, 0], [10, 1, 5, 4, 1, 0, 0], [12, 1, 6, 1, 3, 2, 1], [8, 1, 4, 1, 2, 1, 1],
                    [8, 1, 1, 1, 2, 1, 4], [20, 15, 1, 15, 1, 15, 1]], CAN_BE)

    def test_1_cannot(self):
        self.check([[2, 1, 2, 0, 0, 0, 0], [2, 15, 17, 0, 0, 0, 0], [2, 1, 63, 1, 62, 1, 2], [10, 4, 2, 3, 3, 0, 0],
                    [20, 10, 2, 1, 3, 1, 5]], fault(4))

    def test_one_in_the_middle_cannot(self):
        self.check([[10, 4, 1, 1, 6, 0, 0], [10, 3, 1, 2, 5, 0, 0], [20, 4, 1, 1, 5, 1, 11], [9, 1, 1, 1, 2, 1, 5]],
                   fault(4))

    def test_the_highest_alone_cannot(self):
        self.check([[11, 4, 1, 1, 5, 0, 0], [10, 8, 1, 0, 0, 0, 0], [17, 15, 1, 0, 0, 0, 0], [9, 1, 4, 1, 2, 1, 1],
                    [20, 15, 1, 1, 3, 0, 0], [20, 3, 1, 3, 5, 0, 0]], fault(4))

    def test_what_isnt_below_the_ratio_neednt(self):
        self.check([[10, 4, 1, 1, 5, 1, 63], [5, 4, 1, 1, 63, 0, 0], [2, 1, 1, 1, 20, 1, 50]], CAN_BE)


class Place(unittest.TestCase):
    NUMBERS = [21, 4, 1, 1, 5, 0, 0]
    WORTH = [10, 15, 1, 4, 63, 0, 0]
    PUSHED = [10, 8, 1, 0, 0, 0, 0]

    def test_each_rod_by_itself(self):
        for place in range(64):
            for rule, rod in ((2, self.NUMBERS), (3, self.WORTH), (4, self.PUSHED)):
                with self.subTest(place=place, rule=rule):
                    self.assertEqual(look(SOROBAN * place + rod + SUANPAN * (63 - place)), fault(rule, place))

    def test_the_first_rod_not_the_first_rule(self):
        self.assertEqual(look(SOROBAN + self.PUSHED + self.WORTH + self.NUMBERS), fault(4, 1))
        self.assertEqual(look(SOROBAN * 2 + self.WORTH + self.PUSHED + self.NUMBERS), fault(3, 2))
        self.assertEqual(look(self.PUSHED + self.NUMBERS), fault(4, 0))
        self.assertEqual(look(self.WORTH + SOROBAN + self.NUMBERS), fault(3, 0))
        self.assertEqual(look(self.NUMBERS + self.WORTH + self.PUSHED), fault(2, 0))

    def test_the_first_of_several_with_the_same(self):
        for rule, rod in ((2, self.NUMBERS), (3, self.WORTH), (4, self.PUSHED)):
            with self.subTest(rule=rule):
                self.assertEqual(look(SOROBAN * 3 + rod + SOROBAN + rod), fault(rule, 3))

    def test_a_fault_is_told_whatever_the_book(self):
        # A rule that isn't right on an earlier rod is not what is answered.
        self.assertEqual(right(SOROBAN + self.PUSHED, EACH_DECK, right_book(SOROBAN)), fault(4, 1))


if __name__ == "__main__":
    unittest.main()
