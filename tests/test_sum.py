"""The call sum_of where a sum comes: what stands then, the acts, and what they cost."""

import itertools
import random
import unittest

from abacusbooks.books import sum_of
from makers import (CARRY, EACH_DECK, SOROBAN, SUANPAN, TO_THE_BEAM, act_on, is_due, right_book, span_of, standing_of,
                    summed, with_row, without_row)

BINARY = [2, 1, 1, 0, 0, 0, 0]
TERNARY = [3, 2, 1, 0, 0, 0, 0]
TWENTY = [20, 4, 1, 3, 5, 0, 0]
THREE_DECKS = [12, 2, 1, 1, 3, 1, 6]

# Deck 0 costs 2 to the beam and 3 away, deck 1 costs 5 and 7; moving over costs 11 a rod.
PRICED = [11, 0, 1, 4, 0, 0, 0, 2, 0, 2, 4, 0, 0, 0, 3, 1, 1, 1, 0, 0, 0, 5, 1, 2, 1, 0, 0, 0, 7]
BOOK = right_book(SOROBAN)
CARRY_LATER = right_book(SOROBAN, 1)


def on(rod, *steps):
    """The acts on a rod, as they are answered."""
    return [number for step in steps for number in [rod] + step]


def sum_on_sorobans(op, order, h, v, value, rods=3, hand=PRICED, book=BOOK):
    make = SOROBAN * rods
    return sum_of(op, order, h, v, make, hand, standing_of(make, value), book)


class ByHand(unittest.TestCase):
    """Small sums, written out."""

    def test_one_act(self):
        self.assertEqual(sum_on_sorobans(0, 0, 0, 2, 0), [0, 2, 2, 0, 0, 0, 0, 0, 0, 0, 0] + on(0, [0, 2, 0]))
        self.assertEqual(sum_on_sorobans(1, 0, 0, 2, 3), [0, 3, 1, 0, 0, 0, 0, 0, 0, 0, 0] + on(0, [1, 2, 0]))

    def test_seven_where_eight_stands(self):
        # Three beads away, and one to the next rod; here the carry comes first.
        answer = sum_on_sorobans(0, 0, 0, 7, 8)
        self.assertEqual(answer, [0, 11 + 2 + 11 + 3, 0, 1, 0, 1, 0, 0, 0, 0, 0] + on(1, [0, 1, 0]) + on(0, [1, 3, 0]))
        later = sum_on_sorobans(0, 0, 0, 7, 8, book=CARRY_LATER)
        self.assertEqual(later, [0, 3 + 11 + 2, 0, 1, 0, 1, 0, 0, 0, 0, 0] + on(0, [1, 3, 0]) + on(1, [0, 1, 0]))

    def test_seven_from_fifteen(self):
        answer = sum_on_sorobans(1, 0, 0, 7, 15)
        self.assertEqual(answer, [0, 11 + 3 + 11 + 2, 3, 1, 0] + [0] * 6 + on(1, [1, 1, 0]) + on(0, [0, 3, 0]))

    def test_from_the_left_and_from_the_right(self):
        acts = [on(2, [0, 1, 0]), on(1, [0, 2, 0]), on(0, [0, 3, 0])]
        then = [3, 0, 0, 2, 0, 0, 1, 0, 0]
        self.assertEqual(sum_on_sorobans(0, 0, 2, 123, 0), [0, 6 + 22] + then + acts[0] + acts[1] + acts[2])
        self.assertEqual(sum_on_sorobans(0, 1, 2, 123, 0), [0, 6 + 44] + then + acts[2] + acts[1] + acts[0])

    def test_digits_of_0_are_left_out(self):
        self.assertEqual(sum_on_sorobans(0, 0, 0, 202, 0), [0, 4 + 44, 2, 0, 0, 0, 0, 0, 2, 0, 0]
                         + on(2, [0, 2, 0]) + on(0, [0, 2, 0]))
        self.assertEqual(sum_on_sorobans(0, 1, 0, 202, 0), [0, 4 + 22, 2, 0, 0, 0, 0, 0, 2, 0, 0]
                         + on(0, [0, 2, 0]) + on(2, [0, 2, 0]))

    def test_a_rule_for_0_is_never_used(self):
        book = BOOK + [[op, 0, x, 31, 15, 15] for op in range(2) for x in range(20)]
        self.assertEqual(sum_on_sorobans(0, 0, 0, 100, 0, book=book), sum_on_sorobans(0, 0, 0, 100, 0))
        self.assertEqual(sum_on_sorobans(0, 0, 0, 0, 777, book=book)[:2], [0, 0])

    def test_the_rule_is_for_what_the_rod_then_shows(self):
        # From the left 2 is added to 3 and the carry to 5; from the right the carry to 3 and 2 to 4.
        then = [3, 0, 0, 1, 1, 0]
        units = on(0, [0, 3, 0], [3, 1, 0])
        from_left = on(1, [1, 3, 0], [2, 1, 0]) + on(1, [0, 1, 0]) + units
        self.assertEqual(sum_on_sorobans(0, 0, 0, 28, 35, rods=2), [0, 11 + 8 + 2 + 11 + 9] + then + from_left)
        from_right = on(1, [0, 1, 0]) + units + on(1, [1, 3, 0], [2, 1, 0])
        self.assertEqual(sum_on_sorobans(0, 1, 0, 28, 35, rods=2), [0, 11 + 2 + 11 + 9 + 11 + 8] + then + from_right)

    def test_carries_through_several_rods(self):
        # The carry stands ahead of the acts, so the leftmost rod acts first.
        nine_away = [[1, 4, 0], [3, 1, 0]]
        acts = on(2, [0, 1, 0]) + on(1, *nine_away) + on(0, *nine_away)
        expected = [0, 22 + 2 + 11 + 10 + 11 + 10, 0, 0, 0, 0, 0, 0, 1, 0, 0] + acts
        self.assertEqual(sum_on_sorobans(0, 0, 0, 1, 99), expected)

    def test_a_carry_between_two_acts(self):
        acts = on(0, [1, 4, 0]) + on(1, [1, 4, 0]) + on(2, [0, 1, 0]) + on(1, [3, 1, 0]) + on(0, [3, 1, 0])
        answer = sum_on_sorobans(0, 0, 0, 1, 99, book=CARRY_LATER)
        self.assertEqual(answer, [0, 3 + 11 + 3 + 11 + 2 + 11 + 7 + 11 + 7, 0, 0, 0, 0, 0, 0, 1, 0, 0] + acts)

    def test_a_carry_behind_all_acts(self):
        acts = on(0, [1, 4, 0], [3, 1, 0]) + on(1, [1, 4, 0], [3, 1, 0]) + on(2, [0, 1, 0])
        answer = sum_on_sorobans(0, 0, 0, 1, 99, book=right_book(SOROBAN, 2))
        self.assertEqual(answer, [0, 10 + 11 + 10 + 11 + 2, 0, 0, 0, 0, 0, 0, 1, 0, 0] + acts)

    def test_one_is_taken_from_the_next_rod(self):
        acts = on(2, [1, 1, 0]) + on(1, [0, 4, 0], [2, 1, 0]) + on(0, [0, 4, 0], [2, 1, 0])
        answer = sum_on_sorobans(1, 0, 0, 1, 100)
        self.assertEqual(answer, [0, 22 + 3 + 11 + 7 + 11 + 7, 4, 1, 0, 4, 1, 0, 0, 0, 0] + acts)

    def test_strokes_on_two_decks(self):
        hand = [0, 0, 1, 4, 1, 2, 1, 9, 1, 1, 1, 0, 2, 4, 8]
        book = [[0, 4, 5, 0, 4, 1], [0, 1, 4, 1, 1, 4]]
        self.assertEqual(sum_of(0, 0, 0, 4, SOROBAN, hand, [0, 1, 0], book), [0, 9, 4, 0, 0, 0, 0, 4, 1])
        self.assertEqual(sum_of(0, 0, 0, 1, SOROBAN, hand, [4, 0, 0], book), [0, 8, 0, 1, 0, 0, 1, 1, 4])

    def test_a_rule_with_several_carries(self):
        # Each is done then and there, by the rule for what the next rod shows by then.
        book = [[0, 5, 0] + CARRY * 3, [0, 1, 0, 0, 1, 0], [0, 1, 1] + act_on(1, TO_THE_BEAM, 1), [0, 1, 6, 1, 1, 0]]
        acts = on(1, [0, 1, 0], act_on(1, TO_THE_BEAM, 1), [1, 1, 0])
        self.assertEqual(sum_of(0, 0, 0, 5, SOROBAN * 2, EACH_DECK, [0] * 6, book), [0, 7 + 3, 0, 0, 0, 0, 1, 0] + acts)

    def test_a_rod_is_out_of_form_while_its_rule_goes_on(self):
        # Only when a rule begins does its rod have to be in form: five beads and two of five stand at the carry.
        book = [[0, 5, 5, 0, 5, 0, 2, 1, 0] + CARRY + [1, 5, 0, 3, 2, 0], [0, 1, 0, 0, 1, 0]]
        acts = on(0, [0, 5, 0], [2, 1, 0]) + on(1, [0, 1, 0]) + on(0, [1, 5, 0], [3, 2, 0])
        answer = sum_of(0, 0, 0, 5, SUANPAN * 2, EACH_DECK, [0, 1, 0, 0, 0, 0], book)
        self.assertEqual(answer, [0, 5 + 14, 0, 0, 0, 1, 0, 0] + acts)

    def test_a_rod_left_out_of_form_that_no_rule_begins_on_again(self):
        book = [[0, 5, 0, 0, 5, 0]]
        self.assertEqual(sum_of(0, 0, 0, 5, SUANPAN, EACH_DECK, [0, 0, 0], book), [0, 1, 5, 0, 0, 0, 0, 5, 0])
        self.assertEqual(sum_of(0, 0, 0, 55, SUANPAN * 2, EACH_DECK, [0] * 6, book)[:8], [0, 16, 5, 0, 0, 5, 0, 0])

    def test_a_count_above_the_ratio_that_no_rule_begins_on_again(self):
        book = [[0, 5, 0, 0, 5, 0, 2, 2, 0]]
        self.assertEqual(sum_of(0, 0, 0, 5, SUANPAN, EACH_DECK, [0, 0, 0], book)[:5], [0, 2, 5, 2, 0])


class Nothing(unittest.TestCase):
    def test_v_0(self):
        for op, order in itertools.product(range(2), repeat=2):
            for make in (SOROBAN, BINARY * 64, THREE_DECKS + TWENTY + SUANPAN):
                for value in (0, 1, span_of(make) // 2, span_of(make) - 1):
                    standing = standing_of(make, value)
                    with self.subTest(op=op, order=order, make=make, value=value):
                        self.assertEqual(sum_of(op, order, 0, 0, make, EACH_DECK, standing, BOOK), [0, 0] + standing)

    def test_no_rules(self):
        for op, order in itertools.product(range(2), repeat=2):
            for v in (1, 9, 105, 999):
                standing = standing_of(SOROBAN * 3, 987)
                answer = sum_of(op, order, 1, v, SOROBAN * 3, [255], standing, [])
                self.assertEqual(answer, [0, 0] + standing)

    def test_a_rule_that_is_none_told_and_the_sum_goes_on(self):
        book = without_row(BOOK, [0, 2, 3])
        answer = sum_on_sorobans(0, 0, 2, 121, 131, book=book)
        self.assertEqual(answer, [0, 2 + 22 + 2, 2, 0, 0, 3, 0, 0, 2, 0, 0] + on(2, [0, 1, 0]) + on(0, [0, 1, 0]))

    def test_a_carry_to_a_rule_that_is_none_told(self):
        book = without_row(BOOK, [0, 1, 0])
        answer = sum_on_sorobans(0, 0, 0, 7, 8, book=book)
        self.assertEqual(answer, [0, 3] + [0, 1, 0] + [0] * 6 + on(0, [1, 3, 0]))

    def test_a_rule_without_steps_is_as_one_that_is_none_told(self):
        told = with_row(BOOK, [0, 2, 3])
        self.assertEqual(sum_on_sorobans(0, 0, 2, 121, 131, book=told),
                         sum_on_sorobans(0, 0, 2, 121, 131, book=without_row(BOOK, [0, 2, 3])))

    def test_rules_of_the_other_op_alone(self):
        taking = [row for row in BOOK if row[0] == 1]
        self.assertEqual(sum_on_sorobans(0, 0, 0, 123, 456, book=taking), [0, 0] + standing_of(SOROBAN * 3, 456))
        self.assertEqual(sum_on_sorobans(1, 0, 0, 123, 456, book=taking)[2:11], standing_of(SOROBAN * 3, 333))


class Cost(unittest.TestCase):
    def test_where_the_hand_is_first(self):
        for h in range(5):
            for order in range(2):
                with self.subTest(h=h, order=order):
                    # 1 on rod 4 and 1 on rod 1: four beads' worth is 2 each, and the way there is 11 a rod.
                    first, last = (1, 4) if order else (4, 1)
                    answer = sum_on_sorobans(0, order, h, 10010, 0, rods=5)
                    self.assertEqual(answer[1], 2 + 2 + 11 * (abs(h - first) + abs(first - last)))

    def test_moving_over_for_nothing(self):
        for h in (0, 31, 63):
            answer = sum_on_sorobans(0, 0, h, 10 ** 63 + 1, 0, rods=64, hand=[0] + PRICED[1:])
            self.assertEqual(answer[1], 4)

    def test_moving_over_as_dear_as_can_be(self):
        for h in (0, 31, 63):
            for order in range(2):
                answer = sum_on_sorobans(0, order, h, 10 ** 63 + 1, 0, rods=64, hand=[255] + PRICED[1:])
                self.assertEqual(answer[1], 4 + 255 * (63 + (h if order else 63 - h)))

    def test_where_no_act_is_done_the_hand_does_not_go(self):
        # The digit of the leftmost rod has a rule without steps; what lies on the right alone counts.
        book = without_row(BOOK, [0, 5, 0])
        answer = sum_on_sorobans(0, 0, 0, 501, 0, book=book)
        self.assertEqual(answer, [0, 2, 1, 0, 0] + [0] * 6 + on(0, [0, 1, 0]))

    def test_a_carry_by_itself_does_not_move_the_hand(self):
        book = [[0, 1, 0, 0, 1, 0] + CARRY + [1, 1, 0]]
        answer = sum_of(0, 0, 0, 1, SOROBAN * 2, PRICED, [0, 0, 0, 1, 0, 0], book)
        self.assertEqual(answer, [0, 5, 0, 0, 0, 1, 0, 0] + on(0, [0, 1, 0], [1, 1, 0]))

    def test_the_cost_is_the_strokes_whatever_the_beads(self):
        for n in range(1, 5):
            self.assertEqual(sum_on_sorobans(0, 0, 0, n, 0)[1], 2)

    def test_strokes_of_255(self):
        hand = [255] + [255 if at % 7 == 6 else number for at, number in enumerate(PRICED[1:])]
        answer = sum_on_sorobans(0, 0, 0, 999, 0, hand=hand)
        self.assertEqual(answer[1], 255 * (6 + 2 + 2))


class ByARightBook(unittest.TestCase):
    """The standing in form of the sum comes, whatever the order; if there's none, it runs over."""

    RODS = (BINARY, TERNARY, SOROBAN, SUANPAN, THREE_DECKS, TWENTY, [20, 15, 1, 15, 1, 15, 1], [7, 1, 5, 2, 3, 2, 1])

    def check(self, op, order, h, v, make, value, book, hand=EACH_DECK):
        answer = sum_of(op, order, h, v, make, hand, standing_of(make, value), book)
        self.assertTrue(is_due(answer, op, h, v, make, hand, value), answer)

    def test_one_rod(self):
        for rod in self.RODS:
            for carry_at in (0, 9):
                book = right_book(rod, carry_at)
                for op, value, v in itertools.product(range(2), range(rod[0]), range(rod[0])):
                    with self.subTest(rod=rod, carry_at=carry_at, op=op, value=value, v=v):
                        self.check(op, v % 2, 0, v, rod, value, book)

    def test_all_sums_on_small_makes(self):
        for rod, rods in ((BINARY, 4), (TERNARY, 3), (SOROBAN, 1)):
            book = right_book(rod, 1)
            span = rod[0] ** rods
            for op, order, value, v in itertools.product(range(2), range(2), range(span), range(span)):
                with self.subTest(rod=rod, op=op, order=order, value=value, v=v):
                    self.check(op, order, v % rods, v, rod * rods, value, book)

    def test_many_sums_on_larger_makes(self):
        chance = random.Random(8)
        for rod in self.RODS:
            for rods in (2, 5, 13, 64):
                book = right_book(rod, chance.randrange(3))
                make = rod * rods
                span = rod[0] ** rods
                for unused in range(6):
                    for op, order in itertools.product(range(2), repeat=2):
                        value, v, h = chance.randrange(span), chance.randrange(span), chance.randrange(rods)
                        with self.subTest(make=make, op=op, order=order, value=value, v=v):
                            self.check(op, order, h, v, make, value, book)
                            self.check(op, order, h, v, make, max(v, value) if op else span - 1 - v, book)

    def test_the_edges_of_the_span(self):
        for rod in (BINARY, SOROBAN, TWENTY):
            for rods in (1, 2, 64):
                top = rod[0] ** rods - 1
                edges = (0, 1, top - 1, top)
                book = right_book(rod)
                for op, order, value, v in itertools.product(range(2), range(2), edges, edges):
                    with self.subTest(rod=rod, rods=rods, op=op, order=order, value=value, v=v):
                        self.check(op, order, rods - 1, v, rod * rods, value, book)

    def test_rods_of_differing_decks(self):
        make = SOROBAN + SUANPAN + [10, 4, 1, 1, 5, 1, 63] + [10, 6, 1, 3, 5, 2, 20] + SOROBAN + [10, 9, 1, 1, 5, 0, 0]
        chance = random.Random(9)
        for unused in range(100):
            for op, order in itertools.product(range(2), repeat=2):
                value, v = chance.randrange(10 ** 6), chance.randrange(10 ** 6)
                with self.subTest(op=op, order=order, value=value, v=v):
                    self.check(op, order, v % 6, v, make, value, CARRY_LATER)

    def test_the_largest_v(self):
        v = 20 ** 64 - 1
        for order in range(2):
            for carry_at in (0, 1, 9):
                book = right_book(TWENTY, carry_at)
                for value in (0, 1, v - 1, v, v // 19):
                    with self.subTest(order=order, carry_at=carry_at, value=value):
                        self.check(0, order, 63, v, TWENTY * 64, value, book)
                        self.check(1, order, 0, v, TWENTY * 64, value, book)

    def test_the_longest_way_of_carries(self):
        for rod in (BINARY, SOROBAN, TWENTY):
            top = rod[0] ** 64 - 1
            for carry_at in (0, 1, 9):
                book = right_book(rod, carry_at)
                with self.subTest(rod=rod, carry_at=carry_at):
                    self.check(0, 0, 0, 1, rod * 64, top - rod[0] ** 63, book)
                    self.check(1, 0, 0, 1, rod * 64, rod[0] ** 63, book)
                    self.check(0, 0, 0, 1, rod * 64, top, book)
                    self.check(1, 0, 0, 1, rod * 64, 0, book)
                    self.check(0, 0, 0, top, rod * 64, 1, book)

    def test_carries_of_each_digit_through_all_rods_to_its_left(self):
        # From the left, each digit's carry goes on to the leftmost rod's neighbour: the most steps a right book has.
        for rod in (BINARY, SOROBAN):
            span = rod[0] ** 64
            for op in range(2):
                for value, v in ((span // rod[0] - 1, span // rod[0] - 1), (1, span // rod[0] - 1), (span - 1, 1)):
                    for order in range(2):
                        with self.subTest(rod=rod, op=op, order=order, value=value, v=v):
                            self.check(op, order, 5, v, rod * 64, value, right_book(rod, 1))


class AgainstRulesThatCallOneAnother(unittest.TestCase):
    def test_makes_of_several_ratios(self):
        # One book serves rods of several ratios only for some digits; what comes is as the rules say.
        chance = random.Random(10)
        ends = {}
        rods = (BINARY, TERNARY, SOROBAN, SUANPAN, THREE_DECKS, TWENTY)
        for unused in range(1500):
            make = sum([chance.choice(rods) for rod in range(chance.randrange(1, 6))], [])
            book = right_book(chance.choice(rods), chance.randrange(3))
            span = span_of(make)
            given = [chance.randrange(2), chance.randrange(2), chance.randrange(len(make) // 7), chance.randrange(span),
                     make, EACH_DECK, standing_of(make, chance.randrange(span)), book]
            with self.subTest(given=given):
                answer = sum_of(*given)
                self.assertEqual(answer, summed(*given))
            ends[answer[0]] = True
        self.assertEqual(sorted(ends), [-9, -6, 0])

    def test_books_of_any_steps(self):
        chance = random.Random(11)
        ends = {}
        for unused in range(600):
            rod = chance.choice((BINARY, TERNARY, [4, 2, 1, 1, 2, 0, 0], [4, 3, 1, 3, 1, 3, 1]))
            make = rod * chance.randrange(1, 7)
            hand = [chance.randrange(256)] + sum([self.stroke(chance) for more in range(chance.randrange(1, 9))], [])
            book = [[op, d, x] + self.steps(chance, len(hand) // 7)
                    for op in range(2) for d in range(1, rod[0]) for x in range(rod[0]) if chance.randrange(5)]
            span = span_of(make)
            given = [chance.randrange(2), chance.randrange(2), chance.randrange(len(make) // 7), chance.randrange(span),
                     make, hand, standing_of(make, chance.randrange(span)), book]
            with self.subTest(given=given):
                answer = sum_of(*given)
                self.assertEqual(answer, summed(*given))
            ends[answer[0]] = ends.get(answer[0], 0) + 1
        self.assertGreater(min(ends[0], ends[-6], ends[-9]), 20)

    def stroke(self, chance):
        deck, second = chance.sample(range(2), 2)
        both = [second, chance.randrange(1, 3), chance.randrange(1, 4)]
        return [deck, chance.randrange(1, 3), chance.randrange(1, 4)] + chance.choice([both, [0] * 3]) + [
            chance.randrange(1, 256)]

    def steps(self, chance, strokes):
        return sum([chance.choice([CARRY, [chance.randrange(strokes + 1), chance.randrange(1, 3), chance.randrange(2)]])
                    for unused in range(chance.randrange(4))], [])


if __name__ == "__main__":
    unittest.main()
