"""The call right: which books are right on a make, and which rule is told where one isn't."""

import random
import unittest

from abacusbooks.books import right
from makers import (AWAY, CARRY, EACH_DECK, LARGEST, SOROBAN, SUANPAN, TO_THE_BEAM, act_on, act_on_sides, acts_between,
                    beads, due, form, heads, pushed_of, right_book, rods_in, rule_row, sides_of, triples, with_row,
                    without_row)

RIGHT = [1]
QUATERNARY = [4, 3, 1, 0, 0, 0, 0]
TERNARY = [3, 2, 1, 0, 0, 0, 0]
BINARY = [2, 1, 1, 0, 0, 0, 0]
THREE_DECKS = [12, 2, 1, 1, 3, 1, 6]

# Rods with several ways to push some digits, and what decides there.
SEVERAL_WAYS = [
    SUANPAN,
    [10, 9, 1, 1, 5, 0, 0],
    [10, 1, 5, 9, 1, 0, 0],
    [4, 3, 1, 3, 1, 3, 1],
    [4, 1, 2, 2, 1, 2, 1],
    [5, 1, 1, 1, 1, 3, 1],
    [7, 2, 1, 2, 3, 1, 5],
    [7, 2, 3, 2, 1, 1, 5],
    [7, 1, 5, 2, 3, 2, 1],
    [9, 2, 1, 3, 3, 1, 4],
    [20, 15, 1, 15, 1, 15, 1],
    [20, 10, 1, 6, 3, 4, 5],
]
ONE_WAY = [SOROBAN, TERNARY, BINARY, THREE_DECKS, [8, 1, 4, 1, 2, 1, 1], [16, 15, 1, 0, 0, 0, 0],
           [20, 4, 1, 3, 5, 0, 0], [2, 1, 1, 1, 63, 0, 0]]


def judged(make, hand, book):
    """The answer that the document asks for, by sides of single beads; what is handed in has no fault."""
    told = {tuple(row[:3]): row[3:] for row in book}
    for number, rod in enumerate(rods_in(make)):
        for head in heads(rod):
            steps = triples(told.get(tuple(head), []))
            sides = sides_of(rod, form(rod, head[2]))
            done = all(step == CARRY or act_on_sides(sides, hand, step) for step in steps)
            carries = steps.count(CARRY)
            shown, carries_due = due(rod, head)
            if not done:
                return [0, number] + head + [1]
            if pushed_of(sides) != form(rod, shown):
                return [0, number] + head + [2]
            if carries != carries_due:
                return [0, number] + head + [3]
    return RIGHT


class RightBooks(unittest.TestCase):
    def test_one_rod(self):
        for rod in ONE_WAY:
            for carry_at in range(4):
                with self.subTest(rod=rod, carry_at=carry_at):
                    self.assertEqual(right(rod, EACH_DECK, right_book(rod, carry_at)), RIGHT)

    def test_digits_that_can_be_pushed_in_several_ways(self):
        for rod in SEVERAL_WAYS:
            with self.subTest(rod=rod):
                self.assertEqual(right(rod, EACH_DECK, right_book(rod)), RIGHT)

    def test_the_smallest_book(self):
        book = [[0, 1, 0, 0, 1, 0], [0, 1, 1, 0, 0, 0, 1, 1, 0], [1, 1, 0, 0, 1, 0, 0, 0, 0], [1, 1, 1, 1, 1, 0]]
        self.assertEqual(right(BINARY, [0, 0, 1, 1, 0, 0, 0, 1, 0, 2, 1, 0, 0, 0, 1], book), RIGHT)

    def test_many_rods(self):
        for rod in (SOROBAN, BINARY, THREE_DECKS):
            for rods in (2, 3, 13, 63, 64):
                with self.subTest(rod=rod, rods=rods):
                    self.assertEqual(right(rod * rods, EACH_DECK, right_book(rod)), RIGHT)

    def test_rods_that_differ_in_what_no_form_has(self):
        make = SOROBAN + SUANPAN + [10, 4, 1, 1, 5, 1, 63] + [10, 6, 1, 3, 5, 2, 20] + SOROBAN + [10, 9, 1, 1, 5, 0, 0]
        self.assertEqual(right(make, EACH_DECK, right_book(SOROBAN)), RIGHT)

    def test_rows_in_any_order(self):
        book = right_book(SOROBAN, 1)
        self.assertEqual(right(SOROBAN, EACH_DECK, book[::-1]), RIGHT)
        random.Random(3).shuffle(book)
        self.assertEqual(right(SOROBAN, EACH_DECK, book), RIGHT)

    def test_rules_that_the_rod_has_not(self):
        spare = [[op, d, x] for op in range(2) for d in range(20) for x in range(20)
                 if d == 0 or d >= 10 or x >= 10]
        for steps in ([], CARRY, [31, 15, 15] * 10, act_on(0, AWAY, 15)):
            with self.subTest(steps=steps):
                book = [head + steps for head in spare] + right_book(SOROBAN)
                self.assertEqual(len(book), 800)
                self.assertEqual(right(SOROBAN, EACH_DECK, book), RIGHT)

    def test_acts_there_and_back(self):
        # What counts is what the rod shows behind all acts.
        ones = act_on(0, TO_THE_BEAM, 2) + act_on(0, AWAY, 1)
        fives = act_on(1, TO_THE_BEAM, 1) + act_on(1, AWAY, 1)
        row = [0, 1, 0] + ones + fives
        self.assertEqual(right(SOROBAN, EACH_DECK, with_row(right_book(SOROBAN), row)), RIGHT)

    def test_ten_steps(self):
        there, back = act_on(0, TO_THE_BEAM, 1), act_on(0, AWAY, 1)
        row = [0, 2, 0] + (there + back) * 4 + there * 2
        self.assertEqual(len(row), 33)
        self.assertEqual(right(SOROBAN, EACH_DECK, with_row(right_book(SOROBAN), row)), RIGHT)

    def test_a_deck_is_freed_by_the_act_before(self):
        # All four beads stand at the beam: once they are away, four can come again.
        row = [0, 5, 4] + act_on(0, AWAY, 4) + act_on(0, TO_THE_BEAM, 4) + act_on(1, TO_THE_BEAM, 1)
        self.assertEqual(right(SOROBAN, EACH_DECK, with_row(right_book(SOROBAN), row)), RIGHT)

    def test_as_many_beads_as_the_stroke_allows(self):
        hand = [0, 0, 1, 3, 0, 0, 0, 1] + [0, 2, 3, 0, 0, 0, 1]
        self.assertEqual(right(QUATERNARY, hand, right_book(QUATERNARY)), RIGHT)

    def test_what_strokes_and_moving_over_cost(self):
        for cost in (1, 255):
            for over in (0, 255):
                hand = [over] + [cost if at % 7 == 6 else number for at, number in enumerate(EACH_DECK[1:])]
                with self.subTest(cost=cost, over=over):
                    self.assertEqual(right(SOROBAN * 2, hand, right_book(SOROBAN)), RIGHT)


class StrokesOnTwoDecks(unittest.TestCase):
    # Fives to the beam with ones, fives away with ones; fives to the beam while ones go away, and the other way round.
    BOTH = [[0, 1, 4, 1, 1, 1, 1], [1, 2, 1, 0, 2, 4, 1], [1, 1, 1, 0, 2, 4, 1], [0, 1, 4, 1, 2, 1, 1]]
    HAND = EACH_DECK + sum(BOTH, [])

    def book(self, carry_at):
        """The soroban's book in which one act moves both decks wherever both have to move."""
        book = []
        for row in right_book(SOROBAN, carry_at):
            acts = [row[at:at + 3] for at in range(3, len(row), 3) if row[at:at + 3] != CARRY]
            if len(acts) == 2:
                number = {(0, 2): [6, acts[0][1], 1], (1, 3): [7, 1, acts[0][1]], (1, 2): [8, 1, acts[0][1]],
                          (0, 3): [9, acts[0][1], 1]}[(acts[0][0], acts[1][0])]
                carried = CARRY in [row[at:at + 3] for at in range(3, len(row), 3)]
                row = row[:3] + (CARRY + number if carry_at == 0 else number + CARRY) if carried else row[:3] + number
            book.append(row)
        return book

    def test_right(self):
        for carry_at in (0, 2):
            book = self.book(carry_at)
            self.assertEqual({stroke for row in book for stroke in row[3::3]}, set(range(10)) - {4, 5})
            self.assertEqual(right(SOROBAN, self.HAND, book), RIGHT)
            self.assertEqual(right(SUANPAN * 64, self.HAND, book), RIGHT)

    def check_first(self, step, why, x=0, d=6):
        row = [0, d, x] + step
        self.assertEqual(right(SOROBAN, self.HAND, with_row(right_book(SOROBAN), row)),
                         [0, 0, 0, d, x, why] if why else RIGHT)

    def test_both_decks(self):
        self.check_first([6, 1, 1], 0)
        self.check_first([9, 1, 1], 1)
        self.check_first([7, 1, 1], 1)
        self.check_first([6, 2, 1], 2)

    def test_k_0_with_a_stroke_that_has_a_second_deck(self):
        self.check_first([6, 1, 0], 1)
        self.check_first([6, 1, 0] + act_on(1, TO_THE_BEAM, 1), 1)

    def test_k_above_the_most(self):
        self.check_first([6, 1, 2], 1)
        self.check_first([6, 1, 15], 1)

    def test_n_above_the_most(self):
        self.check_first([6, 5, 1], 1)
        self.check_first([8, 2, 1], 1)

    def test_k_with_a_stroke_that_has_no_second_deck(self):
        self.check_first([0, 1, 1, 2, 1, 0], 1)
        self.check_first([0, 1, 0, 2, 1, 1], 1)
        self.check_first([0, 1, 0, 2, 1, 0], 0)

    def test_the_second_deck_hasnt_so_many_beads_on_that_side(self):
        self.check_first([6, 1, 1], 1, x=5, d=1)
        self.check_first([6, 1, 1, 3, 1, 0], 1, x=5, d=1)

    def test_n_and_k_are_each_deck_by_itself(self):
        hand = [0, 0, 1, 2, 1, 1, 3, 1] + EACH_DECK[1:]
        rod = [12, 2, 1, 3, 3, 0, 0]
        book = [row[:3] + [number + 1 if at % 3 == 0 and row[at + 3:at + 6] != CARRY else number
                           for at, number in enumerate(row[3:])] for row in right_book(rod)]
        self.assertEqual(right(rod, hand, book), RIGHT)
        self.assertEqual(right(rod, hand, with_row(book, [0, 11, 0, 0, 2, 3])), RIGHT)
        self.assertEqual(right(rod, hand, with_row(book, [0, 11, 0, 0, 3, 2])), [0, 0, 0, 11, 0, 1])


class WhyOne(unittest.TestCase):
    """An act can't be done."""

    def check(self, steps, head=(0, 1, 0), rod=SOROBAN, hand=EACH_DECK):
        head = list(head)
        with self.subTest(steps=steps, head=head):
            book = with_row(right_book(rod), head + steps)
            self.assertEqual(right(rod, hand, book), [0, 0] + head + [1])

    def test_a_stroke_that_the_hand_has_not(self):
        for stroke in (6, 7, 31):
            self.check([stroke, 1, 0])
            self.check(act_on(0, TO_THE_BEAM, 1) + [stroke, 1, 0])

    def test_a_hand_without_strokes(self):
        for over in (0, 255):
            self.assertEqual(right(BINARY, [over], right_book(BINARY)), [0, 0, 0, 1, 0, 1])
            self.assertEqual(right(BINARY, [over], [[0, 1, 0] + CARRY]), [0, 0, 0, 1, 0, 2])

    def test_the_last_stroke_of_the_longest_hand(self):
        hand = [0] + [2, 1, 1, 0, 0, 0, 1] * 30 + [0, 1, 1, 0, 0, 0, 1] + [0, 2, 1, 0, 0, 0, 1]
        book = [[0, 1, 0, 30, 1, 0], [0, 1, 1, 31, 1, 0] + CARRY, [1, 1, 0] + CARRY + [30, 1, 0], [1, 1, 1, 31, 1, 0]]
        self.assertEqual(right(BINARY * 64, hand, book), RIGHT)
        self.assertEqual(right(BINARY * 64, hand[:-7], book), [0, 0, 0, 1, 1, 1])
        self.assertEqual(right(BINARY * 64, hand[:-14], book), [0, 0, 0, 1, 0, 1])

    def test_a_deck_that_isnt_there(self):
        for direction in (TO_THE_BEAM, AWAY):
            self.check(act_on(2, direction, 1))
            self.check(act_on(0, TO_THE_BEAM, 1) + act_on(2, direction, 1))
            self.check(act_on(1, direction, 1), rod=TERNARY)
            self.check(act_on(2, direction, 1), rod=TERNARY)

    def test_a_second_deck_that_isnt_there(self):
        self.check([6, 1, 1], rod=TERNARY, hand=EACH_DECK + [0, 1, 1, 1, 1, 1, 1])
        self.check([6, 1, 1], rod=TERNARY, hand=EACH_DECK + [1, 1, 1, 0, 1, 1, 1])
        self.check([6, 1, 1], hand=EACH_DECK + [0, 1, 1, 2, 2, 1, 1])

    def test_more_beads_than_stand_on_that_side(self):
        self.check(act_on(0, AWAY, 1))
        self.check(act_on(0, TO_THE_BEAM, 5))
        self.check(act_on(1, TO_THE_BEAM, 2))
        self.check(act_on(1, AWAY, 1))
        self.check(act_on(0, TO_THE_BEAM, 3), head=(0, 1, 2))
        self.check(act_on(0, AWAY, 3), head=(1, 1, 2))
        self.check(act_on(0, TO_THE_BEAM, 1), head=(0, 1, 4))
        self.check(act_on(1, TO_THE_BEAM, 1), head=(0, 1, 5))
        self.check(act_on(0, TO_THE_BEAM, 15))

    def test_n_above_the_strokes_most(self):
        hand = [0, 0, 1, 2, 0, 0, 0, 1] + EACH_DECK[8:]
        self.assertEqual(right([3, 3, 1, 0, 0, 0, 0], hand, right_book(TERNARY)), RIGHT)
        self.assertEqual(right(QUATERNARY, hand, right_book(QUATERNARY)), [0, 0, 0, 3, 0, 1])

    def test_it_cant_be_mended_by_later_acts(self):
        self.check(act_on(0, AWAY, 1) + act_on(0, TO_THE_BEAM, 2))
        self.check(act_on(0, TO_THE_BEAM, 5) + act_on(0, AWAY, 4))

    def test_the_last_act_of_ten(self):
        there, back = act_on(0, TO_THE_BEAM, 1), act_on(0, AWAY, 1)
        self.check((there + back) * 4 + there + act_on(1, AWAY, 1))

    def test_an_act_behind_a_carry(self):
        self.check(CARRY + act_on(0, AWAY, 1), head=(0, 5, 5))
        self.check(act_on(1, AWAY, 1) + CARRY + act_on(1, AWAY, 1), head=(0, 5, 5))

    def test_an_act_before_the_one_that_makes_room(self):
        self.check(act_on(0, TO_THE_BEAM, 1) + act_on(0, AWAY, 4), head=(0, 5, 4))

    def test_it_comes_ahead_of_2_and_3(self):
        self.check(act_on(0, AWAY, 1) + CARRY * 2)
        self.check(CARRY + act_on(1, AWAY, 1))

    def test_each_rule(self):
        for rod in (SOROBAN, THREE_DECKS, BINARY):
            for head in heads(rod):
                self.check(rule_row(rod, *head)[3:] + act_on(0, AWAY, 15), head=head, rod=rod)
                self.check([31, 1, 0] + rule_row(rod, *head)[3:], head=head, rod=rod)


class WhyTwo(unittest.TestCase):
    """The rod shows something else, or not in form."""

    def check(self, steps, head, rod=SOROBAN):
        head = list(head)
        with self.subTest(steps=steps, head=head):
            book = with_row(right_book(rod), head + steps)
            self.assertEqual(right(rod, EACH_DECK, book), [0, 0] + head + [2])

    def test_no_book(self):
        for rod in ONE_WAY + SEVERAL_WAYS:
            with self.subTest(rod=rod):
                self.assertEqual(right(rod, EACH_DECK, []), [0, 0, 0, 1, 0, 2])

    def test_no_rule_told(self):
        for rod in (SOROBAN, THREE_DECKS, BINARY):
            book = right_book(rod)
            for head in heads(rod):
                with self.subTest(rod=rod, head=head):
                    self.assertEqual(right(rod, EACH_DECK, without_row(book, head)), [0, 0] + head + [2])

    def test_a_rule_without_steps_or_with_carries_alone(self):
        for head in heads(SOROBAN):
            self.check([], head)
            self.check(CARRY, head)
            self.check(CARRY * 10, head)

    def test_every_other_standing_that_acts_lead_to(self):
        for rod in (SOROBAN, SUANPAN, [4, 1, 2, 2, 1, 2, 1]):
            for head in heads(rod):
                shown, carries = due(rod, head)
                for goal in self.ways(rod):
                    if goal != form(rod, shown):
                        steps = acts_between(form(rod, head[2]), goal) + [CARRY] * carries
                        self.check(sum(steps, []), head, rod)

    def ways(self, rod):
        first, second, third = beads(rod)
        return [(a, b, c) for a in range(first + 1) for b in range(second + 1) for c in range(third + 1)]

    def test_the_count_that_is_due_but_not_in_form(self):
        self.check(act_on(0, TO_THE_BEAM, 5), (0, 5, 0), SUANPAN)
        self.check(act_on(0, TO_THE_BEAM, 1), (0, 1, 4), SUANPAN)
        self.check(act_on(1, TO_THE_BEAM, 1), (0, 5, 5), SUANPAN)
        self.check(act_on(1, TO_THE_BEAM, 1), (0, 1, 0), [4, 3, 1, 3, 1, 3, 1])
        self.check(act_on(2, TO_THE_BEAM, 1), (0, 1, 0), [4, 1, 2, 2, 1, 2, 1])
        self.check(act_on(1, TO_THE_BEAM, 2), (0, 2, 0), [4, 1, 2, 2, 1, 2, 1])

    def test_the_count_with_the_ratio_in_it(self):
        # 5 and 5 shown as two fives, no carry: ten stands there, and ten isn't a digit.
        self.check(act_on(1, TO_THE_BEAM, 1), (0, 5, 5), SUANPAN)

    def test_added_where_it_should_be_taken_away(self):
        book = right_book(SOROBAN)
        turned = [[1 - row[0]] + row[1:] for row in book]
        self.assertEqual(right(SOROBAN, EACH_DECK, turned), [0, 0, 0, 1, 0, 2])
        self.check(rule_row(SOROBAN, 0, 1, 1)[3:], (1, 1, 1))

    def test_it_comes_ahead_of_3(self):
        self.check(act_on(0, TO_THE_BEAM, 2) + CARRY, (0, 1, 0))
        self.check(act_on(0, TO_THE_BEAM, 2), (1, 9, 0))


class WhyThree(unittest.TestCase):
    """Other carries than are due."""

    def check(self, steps, head, rod=SOROBAN):
        head = list(head)
        with self.subTest(steps=steps, head=head):
            book = with_row(right_book(rod), head + steps)
            self.assertEqual(right(rod, EACH_DECK, book), [0, 0] + head + [3])

    def test_each_rule(self):
        for rod in (SOROBAN, THREE_DECKS, BINARY, SUANPAN):
            for head in heads(rod):
                acts = sum(acts_between(form(rod, head[2]), form(rod, due(rod, head)[0])), [])
                for carries in range(5):
                    if carries != due(rod, head)[1]:
                        self.check(CARRY * carries + acts, head, rod)
                        self.check(acts + CARRY * carries, head, rod)

    def test_a_carry_ahead_and_one_behind(self):
        self.check(CARRY + act_on(1, AWAY, 1) + CARRY, (0, 5, 5))
        self.check(CARRY + act_on(1, TO_THE_BEAM, 1) + CARRY, (1, 5, 0))

    def test_the_edge_between_a_digit_and_none(self):
        self.check(act_on(0, TO_THE_BEAM, 1) + CARRY, (0, 1, 8))
        self.check(act_on(0, AWAY, 4) + act_on(1, AWAY, 1), (0, 1, 9))
        self.check(act_on(0, AWAY, 1) + CARRY, (1, 1, 1))
        self.check(act_on(0, TO_THE_BEAM, 4) + act_on(1, TO_THE_BEAM, 1), (1, 1, 0))

    def test_no_stroke_0_is_meant(self):
        # 0 0 0 is a carry, though the hand has a stroke 0.
        self.check(CARRY + act_on(0, TO_THE_BEAM, 1), (0, 1, 0))


class TheFirst(unittest.TestCase):
    def test_of_each_two_rules(self):
        book = right_book(QUATERNARY)
        cannot = act_on(2, AWAY, 1)
        for first in heads(QUATERNARY):
            for why, steps in ((1, cannot), (2, []), (3, rule_row(QUATERNARY, *first)[3:] + CARRY * 2)):
                for second in heads(QUATERNARY):
                    if second > first:
                        with self.subTest(first=first, second=second, why=why):
                            both = with_row(with_row(book, first + steps), second + cannot)
                            self.assertEqual(right(QUATERNARY, EACH_DECK, both), [0, 0] + first + [why])
                            self.assertEqual(right(QUATERNARY, EACH_DECK, both[::-1]), [0, 0] + first + [why])

    def test_op_then_d_then_x(self):
        book = without_row(without_row(without_row(right_book(SOROBAN), [0, 3, 7]), [0, 7, 3]), [1, 1, 0])
        self.assertEqual(right(SOROBAN, EACH_DECK, book), [0, 0, 0, 3, 7, 2])
        book = with_row(without_row(right_book(SOROBAN), [1, 1, 0]), [0, 9, 9])
        self.assertEqual(right(SOROBAN, EACH_DECK, book), [0, 0, 0, 9, 9, 2])

    def test_the_rod_comes_first(self):
        # On a rod of ratio 2 a rule of a lower op, d, x isn't right either.
        book = with_row(right_book(SOROBAN), [1, 9, 9] + act_on(0, AWAY, 4) + act_on(1, AWAY, 1) + CARRY)
        for rods in (1, 2, 64):
            self.assertEqual(right(SOROBAN * rods, EACH_DECK, book), [0, 0, 1, 9, 9, 3])
        self.assertEqual(right(SOROBAN + BINARY, EACH_DECK, book), [0, 0, 1, 9, 9, 3])

    def test_each_rod(self):
        for place in range(1, 64):
            for other in (BINARY, [10, 1, 5, 4, 1, 0, 0], [10, 9, 1, 0, 0, 0, 0]):
                with self.subTest(place=place, other=other):
                    make = SOROBAN * place + other + SUANPAN * (63 - place)
                    expected = judged(other, EACH_DECK, right_book(SOROBAN))
                    self.assertEqual(expected[0], 0)
                    self.assertEqual(right(make, EACH_DECK, right_book(SOROBAN)), [0, place] + expected[2:])

    def test_a_rod_of_another_ratio(self):
        book = right_book(SOROBAN)
        self.assertEqual(right(SOROBAN + BINARY, EACH_DECK, book), [0, 1, 0, 1, 1, 1])
        self.assertEqual(right(SOROBAN + [9, 4, 1, 1, 5, 0, 0], EACH_DECK, book), [0, 1, 0, 1, 8, 2])
        self.assertEqual(right(SOROBAN + [11, 5, 1, 1, 5, 0, 0], EACH_DECK, book), [0, 1, 0, 1, 9, 2])
        self.assertEqual(right([9, 4, 1, 1, 5, 0, 0] + SOROBAN, EACH_DECK, book), [0, 0, 0, 1, 8, 2])

    def test_a_rod_with_fewer_beads_than_the_acts_go_through(self):
        row = [0, 1, 0] + act_on(0, TO_THE_BEAM, 5) + act_on(0, AWAY, 4)
        book = with_row(right_book(SOROBAN), row)
        self.assertEqual(right(SUANPAN, EACH_DECK, book), RIGHT)
        self.assertEqual(right(SUANPAN * 2 + SOROBAN + SUANPAN, EACH_DECK, book), [0, 2, 0, 1, 0, 1])


class AsLargeAsCanBe(unittest.TestCase):
    def test_the_longest_make_hand_and_book(self):
        rods = [[20, 4, 1, 3, 5, 1, worth] for worth in range(20, 64)] + [[20, 4, 1, 3, 5, 0, 0]] * 20
        hand = [255] + [number if at % 7 != 6 else 255 for at, number in enumerate(EACH_DECK[1:])]
        hand += [2, 2, 15, 1, 2, 15, 255] * 26
        there, back = act_on(0, TO_THE_BEAM, 4) + act_on(0, AWAY, 4), act_on(0, AWAY, 4) + act_on(0, TO_THE_BEAM, 4)
        book = []
        for row in right_book(rods[-1]):
            pause = {0: there, 4: back}.get(row[2] % 5, [])
            while pause and len(row) + 6 <= 33:
                row = row[:3] + pause + row[3:]
            book.append(row)
        book += [[op, 0, x] + [31, 15, 15] * 10 for op in range(2) for x in range(20)]
        self.assertEqual((len(rods), len(hand), len(book)), (64, 225, 800))
        self.assertEqual(right(sum(rods, []), hand, book), RIGHT)
        wrong = with_row(book, [1, 19, 19] + CARRY)
        self.assertEqual(right(sum(rods, []), hand, wrong), [0, 0, 1, 19, 19, 2])
        other = [20, 3, 1, 4, 4, 0, 0]
        self.assertEqual(right(sum(rods[:-1], []) + other, hand, book)[:2], [0, 63])

    def test_the_most_ways_to_push(self):
        rod = [20, 15, 1, 15, 1, 15, 1]
        self.assertEqual(right(rod * 64, EACH_DECK, right_book(rod)), RIGHT)

    def test_a_book_of_820_rows(self):
        book = right_book([20, 4, 1, 3, 5, 0, 0]) + [[op, 0, x] for op in range(2) for x in range(20)]
        book += [[LARGEST] * 36 for unused in range(20)]
        self.assertEqual(len(book), 820)
        self.assertEqual(right([20, 4, 1, 3, 5, 0, 0], EACH_DECK, book), [-5, 9, 800])


class ByAnotherWay(unittest.TestCase):
    """Against judged, on whatever comes."""

    def test_books_with_a_few_rows_changed(self):
        chance = random.Random(20261116)
        whys = {}
        for unused in range(400):
            rod = chance.choice(ONE_WAY[:5] + SEVERAL_WAYS[:10])
            hand = EACH_DECK + sum([self.stroke(chance) for more in range(chance.randrange(4))], [])
            book = right_book(rod, chance.randrange(4))
            for changed in range(chance.randrange(3)):
                at = chance.randrange(len(book))
                book[at] = book[at][:3] + self.steps(chance, rod, book[at])
            make = rod * chance.randrange(1, 4)
            with self.subTest(make=make, hand=hand, book=book):
                expected = judged(make, hand, book)
                self.assertEqual(right(make, hand, book), expected)
            whys[expected[-1] if expected[0] == 0 else 0] = True
        self.assertEqual(sorted(whys), [0, 1, 2, 3])

    def stroke(self, chance):
        deck, second = chance.sample(range(3), 2)
        both = [second, chance.randrange(1, 3), chance.randrange(1, 16)]
        return [deck, chance.randrange(1, 3), chance.randrange(1, 16)] + chance.choice([both, [0, 0, 0]]) + [1]

    def steps(self, chance, rod, row):
        """Steps near the right ones: a carry more or less, an act more, or acts of any strokes."""
        kind = chance.randrange(4)
        steps = [row[at:at + 3] for at in range(3, len(row), 3)]
        if kind == 0:
            steps.insert(chance.randrange(len(steps) + 1), CARRY)
        elif kind == 1:
            steps = [step for step in steps if step != CARRY]
        elif kind == 2:
            steps.insert(chance.randrange(len(steps) + 1), act_on(chance.randrange(3), chance.randrange(1, 3), 1))
        else:
            steps = [[chance.randrange(10), chance.randrange(1, 4), chance.randrange(3)]
                     for unused in range(chance.randrange(1, 4))]
        return sum(steps, [])


if __name__ == "__main__":
    unittest.main()
