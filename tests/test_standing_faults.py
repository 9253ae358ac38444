"""A standing's fault, as sum_of tells it, and standings that aren't in form."""

import itertools
import unittest

from abacusbooks.books import sum_of
from makers import EACH_DECK, LARGEST, SOROBAN, SUANPAN, beads, form, rods_in, shown

ONE_DECK = [4, 3, 1, 0, 0, 0, 0]
THREE_DECKS = [12, 2, 1, 1, 3, 1, 6]
MAKES = (SOROBAN, ONE_DECK, THREE_DECKS, SOROBAN + ONE_DECK, ONE_DECK + THREE_DECKS + SUANPAN,
         THREE_DECKS * 5 + ONE_DECK, SOROBAN * 63 + THREE_DECKS, ONE_DECK * 64)
NOT_IN_FORM = [-3]


def look(make, standing):
    """Nothing is added, so that the standing alone is looked at."""
    return sum_of(0, 0, 0, 0, make, EACH_DECK, standing, [])


def fault(place):
    return [-5, 5, place]


def nothing_pushed(make):
    return [0] * (3 * len(rods_in(make)))


def every_bead(make):
    return [number for rod in rods_in(make) for number in beads(rod)]


def stands(standing):
    return [0, 0] + standing


class Length(unittest.TestCase):
    def test_three_numbers_a_rod(self):
        for make in MAKES:
            with self.subTest(make=make):
                self.assertEqual(look(make, nothing_pushed(make)), stands(nothing_pushed(make)))

    def test_none(self):
        for make in MAKES:
            with self.subTest(make=make):
                self.assertEqual(look(make, []), fault(0))

    def test_each_other_length(self):
        for make in MAKES:
            due = len(nothing_pushed(make))
            for length in itertools.chain(range(20), range(due - 4, due + 5), (193, 249, 250)):
                if length >= 0 and length != due:
                    with self.subTest(make=make, length=length):
                        self.assertEqual(look(make, [0] * length), fault(length))

    def test_it_comes_ahead_of_the_beads(self):
        for length in (1, 2, 4, 5, 6, 7, 250):
            with self.subTest(length=length):
                self.assertEqual(look(SOROBAN, [LARGEST] * length), fault(length))
                self.assertEqual(look(SOROBAN, [5] * length), fault(length))


class Beads(unittest.TestCase):
    def test_all_that_there_are(self):
        # As many as there are is no fault; that it isn't in form is looked at later.
        for make in MAKES:
            with self.subTest(make=make):
                standing = every_bead(make)
                in_form = all(shown(rod, beads(rod)) is not None for rod in rods_in(make))
                self.assertEqual(look(make, standing), stands(standing) if in_form else NOT_IN_FORM)

    def test_one_more_than_there_are_at_each_place(self):
        for make in MAKES:
            for place, has in enumerate(every_bead(make)):
                for number in (has + 1, has + 2, 16, 255, 256, 65536, LARGEST):
                    standing = nothing_pushed(make)
                    standing[place] = number
                    with self.subTest(make=make, place=place, number=number):
                        self.assertEqual(look(make, standing), fault(place))

    def test_a_deck_that_is_not_there(self):
        for place in (2, 4, 5):
            standing = nothing_pushed(SOROBAN + ONE_DECK)
            standing[place] = 1
            with self.subTest(place=place):
                self.assertEqual(look(SOROBAN + ONE_DECK, standing), fault(place))

    def test_the_first_of_several(self):
        make = SOROBAN + THREE_DECKS + ONE_DECK
        for first, second in itertools.combinations(range(9), 2):
            standing = nothing_pushed(make)
            standing[second] = LARGEST
            standing[first] = every_bead(make)[first] + 1
            with self.subTest(first=first, second=second):
                self.assertEqual(look(make, standing), fault(first))

    def test_every_place(self):
        for make in MAKES:
            with self.subTest(make=make):
                self.assertEqual(look(make, [LARGEST] * len(nothing_pushed(make))), fault(0))

    def test_the_beads_of_its_own_rod_count(self):
        make = ONE_DECK + SUANPAN + SOROBAN
        self.assertEqual(look(make, [3, 0, 0, 4, 1, 0, 4, 1, 0]), stands([3, 0, 0, 4, 1, 0, 4, 1, 0]))
        self.assertEqual(look(make, [4, 0, 0, 4, 1, 0, 4, 1, 0]), fault(0))
        self.assertEqual(look(make, [3, 0, 0, 4, 1, 0, 5, 1, 0]), fault(6))
        self.assertEqual(look(make, [3, 0, 0, 4, 1, 0, 4, 2, 0]), fault(7))
        self.assertEqual(look(make, [3, 1, 0, 4, 1, 0, 4, 1, 0]), fault(1))

    def test_beads_ahead_of_form(self):
        # Rod 0 isn't in form, but the fault lies further on.
        self.assertEqual(look(SUANPAN * 2, [5, 0, 0, 0, 3, 0]), fault(4))


class InForm(unittest.TestCase):
    RODS = (SOROBAN, SUANPAN, ONE_DECK, THREE_DECKS, [4, 3, 1, 3, 1, 3, 1], [4, 1, 2, 2, 1, 2, 1],
            [7, 1, 5, 2, 3, 2, 1], [10, 1, 5, 9, 1, 0, 0], [2, 1, 1, 1, 63, 0, 0], [2, 15, 1, 0, 0, 0, 0],
            [20, 4, 1, 4, 5, 0, 0])

    def test_each_way_to_push_a_rod(self):
        for rod in self.RODS:
            forms = [form(rod, digit) for digit in range(rod[0])]
            for way in itertools.product(*[range(number + 1) for number in beads(rod)]):
                with self.subTest(rod=rod, way=way):
                    expected = stands(list(way)) if way in forms else NOT_IN_FORM
                    self.assertEqual(look(rod, list(way)), expected)

    def test_a_count_at_the_ratio_and_above(self):
        self.assertEqual(look([9, 4, 1, 1, 5, 0, 0], [3, 1, 0]), stands([3, 1, 0]))
        self.assertEqual(look([9, 4, 1, 1, 5, 0, 0], [4, 1, 0]), NOT_IN_FORM)
        self.assertEqual(look(SUANPAN, [0, 2, 0]), NOT_IN_FORM)
        self.assertEqual(look(SUANPAN, [5, 2, 0]), NOT_IN_FORM)

    def test_another_way_than_the_form(self):
        self.assertEqual(look(SUANPAN, [0, 1, 0]), stands([0, 1, 0]))
        self.assertEqual(look(SUANPAN, [5, 0, 0]), NOT_IN_FORM)

    def test_each_rod_of_a_make(self):
        for rods in (2, 3, 64):
            for place in range(rods):
                for way in ([5, 0, 0], [0, 2, 0]):
                    standing = [4, 1, 0] * place + way + [4, 1, 0] * (rods - 1 - place)
                    with self.subTest(rods=rods, place=place, way=way):
                        self.assertEqual(look(SUANPAN * rods, standing), NOT_IN_FORM)

    def test_whatever_is_added(self):
        for op in range(2):
            for order in range(2):
                for v in (0, 1, 99):
                    answer = sum_of(op, order, 0, v, SUANPAN * 2, EACH_DECK, [0, 0, 0, 5, 0, 0], [])
                    self.assertEqual(answer, NOT_IN_FORM)


if __name__ == "__main__":
    unittest.main()
