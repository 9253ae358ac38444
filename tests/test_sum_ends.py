"""The call sum_of where no sum comes: it goes wrong (-9), runs over (-6) or is too long (-8)."""

import sys
import time
import unittest

from abacusbooks.books import sum_of
from makers import (AWAY, CARRY, EACH_DECK, SOROBAN, SUANPAN, TO_THE_BEAM, act_on, right_book, standing_of, summed,
                    with_row)

GOES_WRONG = [-9]
RUNS_OVER = [-6]
TOO_LONG = [-8]
BINARY = [2, 1, 1, 0, 0, 0, 0]
# A bead of deck 2 is in no form.
TWENTY = [20, 4, 1, 3, 5, 1, 25]
SPOIL = act_on(2, TO_THE_BEAM, 1)
THERE, BACK = act_on(0, TO_THE_BEAM, 1), act_on(0, AWAY, 1)


class GoesWrong(unittest.TestCase):
    def check(self, v, make, standing, book, expected=GOES_WRONG, op=0, order=0, hand=EACH_DECK):
        self.assertEqual(sum_of(op, order, 0, v, make, hand, standing, book), expected)
        self.assertEqual(summed(op, order, 0, v, make, hand, standing, book), expected)

    def test_an_act_that_cannot_be_done(self):
        for step in (act_on(0, AWAY, 1), act_on(0, TO_THE_BEAM, 5), act_on(0, TO_THE_BEAM, 15), act_on(1, AWAY, 1),
                     act_on(1, TO_THE_BEAM, 2), act_on(2, TO_THE_BEAM, 1), act_on(2, AWAY, 1)):
            with self.subTest(step=step):
                self.check(1, SOROBAN, [0, 0, 0], [[0, 1, 0] + step])
                self.check(1, SOROBAN, [0, 0, 0], [[1, 1, 0] + step], op=1)
                self.check(1, SOROBAN, [0, 0, 0], [[0, 1, 0] + THERE + BACK + step])

    def test_more_beads_than_the_stroke_takes(self):
        hand = [0, 0, 1, 2, 0, 0, 0, 1]
        self.check(1, SOROBAN, [0, 0, 0], [[0, 1, 0, 0, 2, 0]], [0, 1, 2, 0, 0, 0, 0, 2, 0], hand=hand)
        self.check(1, SOROBAN, [0, 0, 0], [[0, 1, 0, 0, 3, 0]], hand=hand)

    def test_beads_of_a_second_deck(self):
        hand = [0, 0, 1, 4, 0, 0, 0, 1] + [0, 1, 4, 1, 1, 1, 1]
        self.check(1, SOROBAN, [0, 0, 0], [[0, 1, 0, 0, 1, 1]], hand=hand)
        self.check(1, SOROBAN, [0, 0, 0], [[0, 1, 0, 1, 1, 0]], hand=hand)
        self.check(1, SOROBAN, [0, 0, 0], [[0, 1, 0, 1, 1, 2]], hand=hand)
        self.check(1, SOROBAN, [0, 0, 0], [[0, 1, 0, 1, 1, 1]], [0, 1, 1, 1, 0, 0, 1, 1, 1], hand=hand)
        self.check(1, SOROBAN, [0, 1, 0], [[0, 1, 5, 1, 1, 1]], hand=hand)
        self.check(1, [4, 3, 1, 0, 0, 0, 0], [0, 0, 0], [[0, 1, 0, 1, 1, 1]], hand=hand)

    def test_a_stroke_that_the_hand_has_not(self):
        for strokes in range(7):
            hand = EACH_DECK[:1 + 7 * strokes]
            for stroke in range(strokes, 32):
                with self.subTest(strokes=strokes, stroke=stroke):
                    self.check(1, SOROBAN, [0, 0, 0], [[0, 1, 0, stroke, 1, 0]], hand=hand)
        hand = [0] + EACH_DECK[1:8] * 32
        self.check(1, SOROBAN, [0, 0, 0], [[0, 1, 0, 31, 1, 0]], [0, 1, 1, 0, 0, 0, 31, 1, 0], hand=hand)

    def test_an_act_on_a_later_digit(self):
        book = with_row(right_book(SOROBAN), [0, 3, 4] + act_on(0, AWAY, 5))
        for v, order in ((321, 0), (321, 1), (123, 0), (123, 1)):
            with self.subTest(v=v, order=order):
                self.check(v, SOROBAN * 3, standing_of(SOROBAN * 3, 444), book, order=order)

    def test_an_act_of_a_rule_that_no_rod_asks_for(self):
        book = right_book(SOROBAN) + [[0, 0, 0, 31, 15, 15], [0, 10, 0, 31, 15, 15], [0, 1, 10, 31, 15, 15]]
        self.check(1, SOROBAN, [0, 0, 0], book, [0, 1, 1, 0, 0] + [0] + THERE)

    def test_a_rod_that_an_earlier_rule_left_with_another_way_to_push(self):
        # 2 on rod 0 carries to rod 1, whose 5 is left as five single beads; then a digit comes there.
        book = [[0, 2, 0] + CARRY, [0, 1, 0] + act_on(0, TO_THE_BEAM, 5)]
        standing = [0] * 6
        self.check(2, SUANPAN * 2, standing, book, [0, 8, 0, 0, 0, 5, 0, 0] + [1] + act_on(0, TO_THE_BEAM, 5))
        self.check(12, SUANPAN * 2, standing, book, order=1)
        self.check(32, SUANPAN * 2, standing, book, order=1)

    def test_a_rod_that_an_earlier_rule_left_with_a_count_above_the_digits(self):
        book = [[0, 2, 0] + CARRY, [0, 1, 0] + act_on(1, TO_THE_BEAM, 2)]
        self.check(12, SUANPAN * 2, [0] * 6, book, order=1)

    def test_a_carry_to_a_rod_that_is_not_in_form(self):
        book = [[0, 2, 0] + CARRY, [0, 3, 0] + act_on(0, TO_THE_BEAM, 5)]
        self.check(30, SUANPAN * 2, [0] * 6, book, [0, 8, 0, 0, 0, 5, 0, 0] + [1] + act_on(0, TO_THE_BEAM, 5))
        self.check(32, SUANPAN * 2, [0] * 6, book)
        self.check(32, SUANPAN * 2, [0] * 6, book, [0, 8, 0, 0, 0, 5, 0, 0] + [1] + act_on(0, TO_THE_BEAM, 5), order=1)

    def test_a_second_carry_to_a_rod_that_the_first_left_not_in_form(self):
        book = [[0, 2, 0] + CARRY * 2, [0, 1, 0] + act_on(0, TO_THE_BEAM, 5)]
        self.check(2, SUANPAN * 2, [0] * 6, book)
        self.check(2, SUANPAN * 64, [0] * 192, book)

    def test_a_carry_from_a_rod_that_is_not_in_form_meanwhile(self):
        # The rule has begun: what its own rod shows while it goes on isn't looked at.
        book = [[0, 2, 0] + act_on(0, TO_THE_BEAM, 5) + CARRY]
        then = [0, 1, 5, 0, 0, 0, 0, 0] + [0] + act_on(0, TO_THE_BEAM, 5)
        self.check(2, SUANPAN * 2, [0] * 6, book, then)

    def test_a_rod_not_in_form_though_its_rule_is_none_told(self):
        book = [[0, 2, 0] + CARRY, [0, 1, 0] + act_on(0, TO_THE_BEAM, 5)]
        self.check(92, SUANPAN * 2, [0] * 6, book, order=1)


class RunsOver(unittest.TestCase):
    def check(self, v, make, standing, book, expected=RUNS_OVER, op=0, order=0):
        self.assertEqual(sum_of(op, order, 0, v, make, EACH_DECK, standing, book), expected)
        self.assertEqual(summed(op, order, 0, v, make, EACH_DECK, standing, book), expected)

    def test_a_carry_as_the_first_step_and_as_a_later_one(self):
        for before in ([], THERE, THERE + BACK, (THERE + BACK) * 4 + THERE):
            for after in ([], CARRY):
                if len(before + after) <= 27:
                    with self.subTest(before=before, after=after):
                        self.check(1, SOROBAN, [0, 0, 0], [[0, 1, 0] + before + CARRY + after])
                        self.check(1, SOROBAN, [0, 0, 0], [[1, 1, 0] + before + CARRY + after], op=1)

    def test_only_at_the_leftmost_rod(self):
        for rods in (1, 2, 3, 64):
            make, standing = SOROBAN * rods, [0] * (3 * rods)
            for number in range(rods):
                with self.subTest(rods=rods, number=number):
                    expected = RUNS_OVER if number == rods - 1 else [0, 0] + standing
                    self.check(2 * 10 ** number, make, standing, [[0, 2, 0] + CARRY], expected)

    def test_carries_that_come_of_carries(self):
        for rods in (1, 2, 3, 63, 64):
            with self.subTest(rods=rods):
                self.check(1, SOROBAN * rods, [0] * (3 * rods), [[0, 1, 0] + CARRY])
                self.check(1, SOROBAN * rods, [0] * (3 * rods), [[0, 1, 0] + THERE + BACK + CARRY + [31, 1, 0]])

    def test_below_0(self):
        book = right_book(SOROBAN)
        self.check(1, SOROBAN * 3, [0] * 9, book, op=1)
        self.check(500, SOROBAN * 3, standing_of(SOROBAN * 3, 499), book, op=1)
        self.check(500, SOROBAN * 3, standing_of(SOROBAN * 3, 499), book, op=1, order=1)

    def test_with_a_rule_for_the_leftmost_rod_that_is_not_right(self):
        # It runs over where a carry comes there, though the sum is below the span.
        book = with_row(right_book(SOROBAN), [0, 1, 0] + THERE + CARRY)
        self.check(1, SOROBAN, [0, 0, 0], book)
        self.check(10, SOROBAN * 2, [0] * 6, book)
        self.check(1, SOROBAN * 2, [0] * 6, book)


class WhichComesFirst(unittest.TestCase):
    def check(self, v, make, standing, book, expected, order=0):
        self.assertEqual(sum_of(0, order, 0, v, make, EACH_DECK, standing, book), expected)
        self.assertEqual(summed(0, order, 0, v, make, EACH_DECK, standing, book), expected)

    def test_within_a_rule(self):
        wrong = act_on(2, AWAY, 1)
        self.check(1, SOROBAN, [0, 0, 0], [[0, 1, 0] + wrong + CARRY], GOES_WRONG)
        self.check(1, SOROBAN, [0, 0, 0], [[0, 1, 0] + CARRY + wrong], RUNS_OVER)

    def test_by_the_order_of_the_digits(self):
        # 1 carries on the left rod, 2 goes wrong on the right one.
        book = [[0, 1, 0] + CARRY, [0, 2, 0, 31, 1, 0]]
        self.check(12, SOROBAN * 2, [0] * 6, book, RUNS_OVER)
        self.check(12, SOROBAN * 2, [0] * 6, book, GOES_WRONG, order=1)

    def test_a_carry_and_what_stands_behind_it(self):
        # What the carry comes to lies ahead of the rest of its own rule.
        book = [[0, 2, 0] + CARRY + [31, 1, 0], [0, 1, 0] + CARRY]
        self.check(2, SOROBAN * 2, [0] * 6, book, RUNS_OVER)
        book = [[0, 2, 0] + CARRY * 2, [0, 1, 0, 31, 1, 0]]
        self.check(2, SOROBAN * 2, [0] * 6, book, GOES_WRONG)

    def test_a_carry_at_the_leftmost_rod_from_a_rod_that_is_not_in_form(self):
        book = [[0, 2, 0] + act_on(0, TO_THE_BEAM, 5) + CARRY]
        self.check(2, SUANPAN, [0, 0, 0], book, RUNS_OVER)


class Counted:
    """A book, a make and a v whose sum has just so many steps, on rods from the left or the right.

    Ten carries from a rod that shows 0 to the next, on and on, end at a rod that shows 1, whose rule has five acts;
    2 to 11 on 0 are one to ten acts.
    """

    CHAIN = [[0, 1, 0] + CARRY * 10, [0, 1, 1] + THERE * 2 + act_on(0, AWAY, 2) + THERE + BACK]
    ACTS = [[0, d, 0] + ((THERE + BACK) * 5)[:3 * (d - 1)] for d in range(2, 12)]
    # How many rods it takes, by how many steps come of 1 added on the first of them.
    RODS = {5: 1, 60: 2, 610: 3, 6110: 4, 61110: 5}

    def __init__(self, steps):
        self.shown, self.digits = [], []
        for chain in sorted(self.RODS, reverse=True):
            while steps >= chain:
                self.shown += [0] * (self.RODS[chain] - 1) + [1]
                self.digits += [1] + [0] * (self.RODS[chain] - 1)
                steps -= chain
        if steps:
            self.shown.append(0)
            self.digits.append(steps + 1)
        self.book = self.CHAIN + self.ACTS

    def on_the_left(self, digit, shown=0):
        self.shown.append(shown)
        self.digits.append(digit)
        return self

    def on_the_right(self, digit, shown=0):
        self.shown.insert(0, shown)
        self.digits.insert(0, digit)
        return self

    def given(self, order, rows=()):
        make = TWENTY * len(self.shown)
        v = sum(digit * 20 ** number for number, digit in enumerate(self.digits))
        value = sum(digit * 20 ** number for number, digit in enumerate(self.shown))
        return [0, order, 0, v, make, EACH_DECK, standing_of(make, value), self.book + list(rows)]


class TooLong(unittest.TestCase):
    def check(self, given, expected):
        answer = sum_of(*given)
        self.assertEqual(answer[:1], expected)
        self.assertEqual(answer, summed(*given))

    def test_the_edge(self):
        for order in range(2):
            for steps, expected in ((65535, [0]), (65536, [0]), (65537, TOO_LONG), (65538, TOO_LONG)):
                with self.subTest(order=order, steps=steps):
                    self.check(Counted(steps).given(order), expected)

    def test_whatever_the_last_step_is(self):
        # The last digit has a rule of one step, done behind 65,535 others or behind 65,536.
        steps = {
            "an act": (THERE, [0]),
            "an act that can't be done": (BACK, GOES_WRONG),
            "a stroke that the hand hasn't": ([31, 1, 0], GOES_WRONG),
            "a carry to a rule without steps": (CARRY, [0]),
        }
        for name, (step, end) in steps.items():
            for order in range(2):
                for before, expected in ((65534, end), (65535, end), (65536, TOO_LONG)):
                    with self.subTest(name=name, order=order, before=before):
                        counted = Counted(before)
                        # The carry goes to a rod that shows 2, for which no rule is told.
                        if order == 0:
                            counted.on_the_right(0, 2).on_the_right(12)
                        else:
                            counted.on_the_left(12).on_the_left(0, 2)
                        self.check(counted.given(order, [[0, 12, 0] + step]), expected)

    def test_the_last_step_is_a_carry_at_the_leftmost_rod(self):
        for before, expected in ((65534, RUNS_OVER), (65535, RUNS_OVER), (65536, TOO_LONG)):
            with self.subTest(before=before):
                counted = Counted(before).on_the_left(12)
                self.check(counted.given(1, [[0, 12, 0] + CARRY]), expected)

    def test_the_last_step_is_a_carry_to_a_rod_that_is_not_in_form(self):
        # From the left: 13 leaves its rod not in form by one act, then 12 comes on its right.
        for before, expected in ((65533, GOES_WRONG), (65534, GOES_WRONG), (65535, TOO_LONG)):
            with self.subTest(before=before):
                counted = Counted(before).on_the_right(13).on_the_right(12)
                self.check(counted.given(0, [[0, 12, 0] + CARRY, [0, 13, 0] + SPOIL]), expected)

    def test_behind_all_steps_a_rule_without_steps_may_come(self):
        for order in range(2):
            for many in (1, 5):
                counted = Counted(65536)
                for unused in range(many):
                    counted = counted.on_the_left(19) if order else counted.on_the_right(19)
                with self.subTest(order=order, many=many):
                    self.check(counted.given(order), [0])

    def test_behind_all_steps_a_rule_may_begin_on_a_rod_that_is_not_in_form(self):
        # From the right: 12 carries to the next rod, which an act leaves not in form; then 19 comes there.
        for before, expected in ((65533, GOES_WRONG), (65534, GOES_WRONG), (65535, TOO_LONG)):
            with self.subTest(before=before):
                counted = Counted(before).on_the_left(12).on_the_left(19, 2)
                self.check(counted.given(1, [[0, 12, 0] + CARRY, [0, 1, 2] + SPOIL]), expected)

    def test_carries_on_and_on(self):
        # The carries end at the leftmost rod, which shows 1; where it shows 0, one comes there.
        standing = [0] * 189 + [1, 0, 0]
        for row in ([0, 1, 0] + CARRY * 10, [0, 1, 0] + CARRY * 2, [0, 1, 0] + (THERE + CARRY + BACK) * 3,
                    [0, 1, 0] + THERE + BACK + CARRY * 8, [0, 1, 0] + CARRY * 8 + THERE + BACK,
                    [0, 1, 0] + (CARRY + THERE + BACK) * 3 + CARRY):
            with self.subTest(row=row):
                self.check([0, 0, 0, 1, SOROBAN * 64, EACH_DECK, standing, [row]], TOO_LONG)
                self.check([0, 0, 0, 1, SOROBAN * 64, EACH_DECK, [0] * 192, [row]], RUNS_OVER)
                taken = [1] + row[1:]
                self.check([1, 1, 0, 1, SOROBAN * 64, EACH_DECK, standing, [taken]], TOO_LONG)

    def test_a_later_digit_would_go_wrong_or_run_over(self):
        rows = [[0, 12, 0, 31, 1, 0], [0, 13, 0] + CARRY]
        for digit, end in ((12, GOES_WRONG), (13, RUNS_OVER)):
            with self.subTest(digit=digit):
                self.check(Counted(65537).on_the_left(digit).given(1, rows), TOO_LONG)
                self.check(Counted(65537).on_the_left(digit).given(0, rows), end)

    def test_acts_alone(self):
        # Without carries no sum has more than 640 steps.
        row = [0, 1, 0] + (THERE + BACK) * 5
        given = [0, 0, 0, int("1" * 64), SOROBAN * 64, EACH_DECK, [0] * 192, [row]]
        self.check(given, [0])
        self.assertEqual(len(sum_of(*given)), 2 + 192 + 4 * 640)


class Deep(unittest.TestCase):
    def deepest(self):
        """Calls where carries wait within one another from the first rod to the last."""
        for rod in (BINARY, SOROBAN, TWENTY):
            value = standing_of(rod * 64, rod[0] ** 63 - 1)
            for carry_at in (0, 9):
                yield [0, 0, 0, 1, rod * 64, EACH_DECK, value, right_book(rod, carry_at)], [0]
                yield [0, 1, 63, rod[0] ** 63 - 1, rod * 64, EACH_DECK, value, right_book(rod, carry_at)], [0]
        yield [0, 0, 0, 1, SOROBAN * 64, EACH_DECK, [0] * 189 + [1, 0, 0], [[0, 1, 0] + CARRY * 10]], TOO_LONG
        yield [0, 0, 0, 1, SOROBAN * 64, EACH_DECK, [0] * 189 + [1, 0, 0], [[0, 1, 0] + CARRY]], [0]
        yield [0, 0, 0, 1, SOROBAN * 64, EACH_DECK, [0] * 192, [[0, 1, 0] + CARRY * 10]], RUNS_OVER

    def test_by_loops(self):
        # Far fewer calls within one another are allowed than there are rods.
        calls = list(self.deepest())
        depth = 0
        frame = sys._getframe()
        while frame:
            depth, frame = depth + 1, frame.f_back
        limit = sys.getrecursionlimit()
        answers = []
        sys.setrecursionlimit(depth + 40)
        try:
            for given, expected in calls:
                answers.append(sum_of(*given)[:1])
        finally:
            sys.setrecursionlimit(limit)
        self.assertEqual(answers, [expected for given, expected in calls])

    def test_in_time(self):
        calls = [given for given, expected in self.deepest()] + [Counted(65536).given(order) for order in range(2)]
        for given in calls:
            begun = time.perf_counter()
            sum_of(*given)
            self.assertLess(time.perf_counter() - begun, 5)


if __name__ == "__main__":
    unittest.main()
