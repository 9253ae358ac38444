"""What best refuses: faults, no rod, no acts that lead there, more than ten steps; and which is told first."""

import itertools
import unittest

from abacusbooks.books import best
from makers import AWAY, EACH_DECK, LARGEST, SOROBAN, SUANPAN, TO_THE_BEAM, best_of, due, first_tours, form, heads

NO_ROD = [-1]
TERNARY = [3, 2, 1, 0, 0, 0, 0]
TEN = [10, 9, 1, 0, 0, 0, 0]
ELEVEN = [11, 10, 1, 0, 0, 0, 0]
TWELVE = [12, 11, 1, 0, 0, 0, 0]


def stroke(deck, direction, most=15, cost=1):
    return [deck, direction, most, 0, 0, 0, cost]


def both(deck, direction, second, to, most=15, cost=1):
    return [deck, direction, most, second, to, most, cost]


def hand(*strokes):
    return [0] + sum(strokes, [])


class Order(unittest.TestCase):
    MAKES = ((SUANPAN * 3, None), ([], [-5, 1, 0]), ([LARGEST] * 500, [-5, 1, 0]), (SUANPAN * 2 + [0] * 7, [-5, 2, 2]),
             ([2, 15, 63, 0, 0, 0, 0], [-5, 3, 0]), (SUANPAN + [10, 8, 1, 0, 0, 0, 0], [-5, 4, 1]))
    HANDS = ((EACH_DECK, None), ([], [-5, 6, 0]), ([256], [-5, 6, 0]), ([LARGEST] * 300, [-5, 6, 0]),
             (EACH_DECK + [0] * 7, [-5, 7, 6]), ([0] + [LARGEST] * 7, [-5, 7, 0]))
    RODS = ((2, None), (3, NO_ROD), (4, NO_ROD), (LARGEST, NO_ROD))
    WHERES = ((1, None), (2, NO_ROD), (LARGEST, NO_ROD))

    def test_each_choice_of_what_is_wrong_at_once(self):
        for picked in itertools.product(self.RODS, self.WHERES, self.MAKES, self.HANDS):
            (rod, no_rod), (where, nowhere), (make, of_make), (strokes, of_hand) = picked
            told = of_make or of_hand or no_rod or nowhere
            with self.subTest(rod=rod, where=where, make=make, hand=strokes):
                answer = best(rod, where, make, strokes)
                if told:
                    self.assertEqual(answer, told)
                else:
                    self.assertEqual(answer[0], 0)

    def test_the_rods_of_the_make(self):
        for rods in (1, 2, 63, 64):
            for rod in (0, rods - 1):
                self.assertEqual(best(rod, 0, TERNARY * rods, EACH_DECK), best_of(TERNARY, 0, EACH_DECK))
            for rod in (rods, rods + 1, 64, 255, 256, 65536, 4294967232, LARGEST):
                if rod >= rods:
                    with self.subTest(rods=rods, rod=rod):
                        self.assertEqual(best(rod, 0, TERNARY * rods, EACH_DECK), NO_ROD)

    def test_where(self):
        for where in (0, 1):
            self.assertEqual(best(0, where, TERNARY, EACH_DECK)[0], 0)
        for where in (2, 3, 255, 256, 65536, 4294967294, LARGEST):
            self.assertEqual(best(0, where, TERNARY, EACH_DECK), NO_ROD)

    def test_they_come_ahead_of_what_the_hand_can_do(self):
        self.assertEqual(best(1, 0, TERNARY, [0]), NO_ROD)
        self.assertEqual(best(0, 2, TERNARY, [0]), NO_ROD)
        self.assertEqual(best(0, 0, TERNARY, [0]), [-2, 0, 1, 0])

    def test_a_fault_of_another_rod(self):
        self.assertEqual(best(0, 0, TERNARY * 3 + [0] * 7, EACH_DECK), [-5, 2, 3])


class NoActsLeadThere(unittest.TestCase):
    def test_a_hand_without_strokes(self):
        for rod in (TERNARY, SOROBAN, [20, 15, 1, 15, 1, 15, 1], [2, 1, 1, 0, 0, 0, 0]):
            for over in (0, 255):
                for where in range(2):
                    self.assertEqual(best(0, where, rod, [over]), [-2, 0, 1, 0])

    def test_strokes_of_one_direction_alone(self):
        # To the beam all goes well until 1 is added to the last digit; away not even 1 is added to 0.
        self.assertEqual(best(0, 0, TERNARY, hand(stroke(0, TO_THE_BEAM))), [-2, 0, 1, 2])
        self.assertEqual(best(0, 1, TEN, hand(stroke(0, TO_THE_BEAM, 1))), [-2, 0, 1, 9])
        self.assertEqual(best(0, 0, TERNARY, hand(stroke(0, AWAY))), [-2, 0, 1, 0])
        # On a soroban 4 and 1 are 5, for which four beads have to go away.
        self.assertEqual(best(0, 0, SOROBAN, hand(stroke(0, TO_THE_BEAM), stroke(1, TO_THE_BEAM))), [-2, 0, 1, 4])

    def test_a_deck_that_no_stroke_moves(self):
        ones = (stroke(0, TO_THE_BEAM), stroke(0, AWAY))
        self.assertEqual(best(0, 0, SOROBAN, hand(*ones)), [-2, 0, 1, 4])
        fives = (stroke(1, TO_THE_BEAM), stroke(1, AWAY))
        self.assertEqual(best(0, 0, SOROBAN, hand(*fives)), [-2, 0, 1, 0])
        self.assertEqual(best(0, 0, SOROBAN, hand(*ones, stroke(1, TO_THE_BEAM))), [-2, 0, 1, 9])
        self.assertEqual(best(0, 0, SOROBAN, hand(*ones, *fives))[0], 0)

    def test_strokes_on_decks_that_the_rod_has_not(self):
        there = (stroke(0, TO_THE_BEAM), stroke(0, AWAY))
        for other in (stroke(1, TO_THE_BEAM), stroke(2, AWAY), both(0, TO_THE_BEAM, 1, TO_THE_BEAM),
                      both(1, AWAY, 0, TO_THE_BEAM), both(2, AWAY, 1, AWAY)):
            with self.subTest(other=other):
                self.assertEqual(best(0, 0, TERNARY, hand(other)), [-2, 0, 1, 0])
                self.assertEqual(best(0, 0, TERNARY, hand(other, there[0])), [-2, 0, 1, 2])
                # They don't stand in the way of others either.
                self.assertEqual(best(0, 0, TERNARY, hand(*there, other)), best(0, 0, TERNARY, hand(*there)))

    def test_decks_that_move_together_alone(self):
        # A bead of each deck always goes along: a digit that needs one of them by itself is never reached.
        pair = hand(both(0, TO_THE_BEAM, 1, TO_THE_BEAM, 1), both(0, AWAY, 1, AWAY, 1))
        self.assertEqual(best(0, 0, SOROBAN, pair), [-2, 0, 1, 0])
        self.assertEqual(best(0, 0, [2, 1, 1, 1, 2, 0, 0], pair), [-2, 0, 1, 0])

    def test_the_rod_alone_counts(self):
        make = SOROBAN + TERNARY + SOROBAN
        ones = hand(stroke(0, TO_THE_BEAM), stroke(0, AWAY))
        self.assertEqual(best(0, 0, make, ones), [-2, 0, 1, 4])
        self.assertEqual(best(1, 0, make, ones), best_of(TERNARY, 0, ones))
        self.assertEqual(best(2, 0, make, ones), [-2, 0, 1, 4])


class TooManySteps(unittest.TestCase):
    """One bead at a time to the beam or away, all at once the other way."""

    def test_just_ten_acts_without_a_carry(self):
        slow_there = hand(stroke(0, TO_THE_BEAM, 1), stroke(0, AWAY))
        # Ten acts from 0 to 10: 10 added to 0 has ten steps; 1 taken from 0 has a carry besides.
        for where in range(2):
            self.assertEqual(best(0, where, ELEVEN, slow_there), [-8, 1, 1, 0])
            self.assertEqual(best(0, where, TEN, slow_there)[0], 0)
            # Eleven acts from 0 to 11.
            self.assertEqual(best(0, where, TWELVE, slow_there), [-8, 0, 11, 0])

    def test_just_ten_steps_with_a_carry(self):
        slow_back = hand(stroke(0, TO_THE_BEAM), stroke(0, AWAY, 1))
        # 1 added to the last digit: nine acts and a carry, then ten acts and a carry.
        for where in range(2):
            answer = best(0, where, TEN, slow_back)
            self.assertEqual(answer, best_of(TEN, where, slow_back))
            self.assertEqual(answer[0], 0)
            self.assertEqual(best(0, where, ELEVEN, slow_back), [-8, 0, 1, 10])
            self.assertEqual(best(0, where, TWELVE, slow_back), [-8, 0, 1, 11])

    def test_both_ways_one_bead_at_a_time(self):
        slow = hand(stroke(0, TO_THE_BEAM, 1), stroke(0, AWAY, 1))
        self.assertEqual(best(0, 0, TEN, slow)[0], 0)
        self.assertEqual(best(0, 0, ELEVEN, slow), [-8, 0, 1, 10])

    def test_two_beads_at_a_time(self):
        # Ten acts take up to twenty beads.
        two = hand(stroke(0, TO_THE_BEAM, 2), stroke(0, AWAY, 2))
        self.assertEqual(best(0, 0, [16, 15, 1, 0, 0, 0, 0], two)[0], 0)
        one = hand(stroke(0, TO_THE_BEAM, 1), stroke(0, AWAY, 1), stroke(1, TO_THE_BEAM, 1), stroke(1, AWAY, 1))
        self.assertEqual(best(0, 0, [20, 15, 1, 15, 1, 0, 0], one), [-8, 0, 1, 19])

    def test_a_short_tour_that_is_dearer_does_not_count(self):
        # All ten beads at once cost 11, one by one 10: the cheapest tour has ten acts, and with the carry eleven steps.
        dear = hand(stroke(0, TO_THE_BEAM), stroke(0, AWAY, 1, 1), stroke(0, AWAY, 15, 11))
        self.assertEqual(best(0, 0, ELEVEN, dear), [-8, 0, 1, 10])
        # At 10 both cost the same, and the stroke that comes first in the hand counts.
        same = hand(stroke(0, TO_THE_BEAM), stroke(0, AWAY, 1, 1), stroke(0, AWAY, 15, 10))
        self.assertEqual(best(0, 0, ELEVEN, same), [-8, 0, 1, 10])
        turned = hand(stroke(0, TO_THE_BEAM), stroke(0, AWAY, 15, 10), stroke(0, AWAY, 1, 1))
        self.assertEqual(best(0, 0, ELEVEN, turned)[0], 0)
        cheap = hand(stroke(0, TO_THE_BEAM), stroke(0, AWAY, 1, 1), stroke(0, AWAY, 15, 9))
        self.assertEqual(best(0, 0, ELEVEN, cheap)[0], 0)

    def test_far_more_than_ten(self):
        # 45 beads, one by one, along a way that winds through all of them.
        rod = [20, 15, 1, 15, 1, 15, 1]
        one = hand(*[stroke(deck, to, 1) for deck in range(3) for to in (TO_THE_BEAM, AWAY)])
        self.assertEqual(best(0, 0, rod, one), [-8, 0, 1, 19])
        # A bead of deck 0 comes only with one of deck 1 back, which come with those of deck 2 alone.
        winding = hand(both(0, TO_THE_BEAM, 1, AWAY, 1, 255), both(1, TO_THE_BEAM, 2, TO_THE_BEAM, 1, 255),
                       stroke(2, AWAY, 1, 255), both(0, AWAY, 1, TO_THE_BEAM, 1, 255), stroke(1, AWAY, 1, 255))
        self.assertEqual(best(0, 0, rod, winding), best_of(rod, 0, winding))


def refused(rod, strokes):
    """What each op, d, x is refused by itself, of those that are."""
    told = []
    for head in heads(rod):
        goal, carries = due(rod, head)
        tour = first_tours(rod, strokes, form(rod, head[2])).get(form(rod, goal))
        if tour is None:
            told.append([-2] + head)
        elif len(tour[1]) + carries > 10:
            told.append([-8] + head)
    return told


class WhichComesFirst(unittest.TestCase):
    def check(self, rod, strokes, first, later):
        told = refused(rod, strokes)
        self.assertEqual(told[0], first)
        self.assertIn(later, told)
        for where in range(2):
            self.assertEqual(best(0, where, rod, strokes), first)

    def test_too_many_steps_and_later_no_acts(self):
        # From 11 to 12 eleven beads go away one by one and another comes; that one never goes away again.
        ones = (stroke(0, TO_THE_BEAM), stroke(0, AWAY, 1))
        self.check([13, 11, 1, 1, 12, 0, 0], hand(*ones, stroke(1, TO_THE_BEAM)), [-8, 0, 1, 11], [-2, 0, 1, 12])

    def test_no_acts_and_later_too_many_steps(self):
        # Nothing leads from 0 to 1; from 11 to 12 it's as above.
        twelve = (stroke(1, TO_THE_BEAM), stroke(1, AWAY))
        self.check([13, 11, 1, 1, 12, 0, 0], hand(stroke(0, AWAY, 1), *twelve), [-2, 0, 1, 0], [-8, 0, 1, 11])

    def test_no_acts_for_several(self):
        self.check(TERNARY, hand(stroke(0, TO_THE_BEAM)), [-2, 0, 1, 2], [-2, 1, 1, 1])

    def test_too_many_steps_for_several(self):
        slow_back = hand(stroke(0, TO_THE_BEAM), stroke(0, AWAY, 1))
        self.check(TWELVE, slow_back, [-8, 0, 1, 11], [-8, 1, 11, 11])

    def test_by_op_then_d_then_x(self):
        # Where several rules have too many steps the first one counts: 11 added to 0, ahead of 1 taken from 0.
        slow_there = hand(stroke(0, TO_THE_BEAM, 1), stroke(0, AWAY))
        self.assertEqual(best(0, 0, TWELVE, slow_there), [-8, 0, 11, 0])
        # 13 beads: 11 added to 0 comes ahead of 11 added to 1, and of 12 added to 0.
        self.assertEqual(best(0, 0, [14, 13, 1, 0, 0, 0, 0], slow_there), [-8, 0, 11, 0])
        self.assertEqual(best(0, 0, [16, 15, 1, 0, 0, 0, 0], slow_there), [-8, 0, 11, 0])

    def test_all_hands_of_two_strokes_of_one_bead(self):
        # By the tours gone through from their beginning.
        rods = (TERNARY, [3, 1, 1, 1, 2, 0, 0], [4, 1, 1, 1, 2, 1, 63], [2, 2, 1, 2, 1, 0, 0])
        parts = [[deck, to, 1] for deck in range(3) for to in (1, 2)]
        strokes = [part + [0, 0, 0, 1] for part in parts]
        strokes += [part + second + [1] for part in parts for second in parts if part[0] != second[0]]
        for rod in rods:
            for pair in itertools.product(strokes, repeat=2):
                with self.subTest(rod=rod, pair=pair):
                    self.assertEqual(best(0, 0, rod, hand(*pair)), best_of(rod, 0, hand(*pair)))


if __name__ == "__main__":
    unittest.main()
