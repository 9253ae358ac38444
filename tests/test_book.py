"""The call book: which rows can be, and which row is told."""

import unittest

from abacusbooks.books import book

LARGEST = 4294967295
CARRY = [0, 0, 0]
IS_A_BOOK = [0]


def fault_at(place):
    return [-5, 9, place]


def every_head():
    return [[op, d, x] for op in range(2) for d in range(20) for x in range(20)]


class OrdinaryBooks(unittest.TestCase):
    def test_no_row(self):
        self.assertEqual(book([]), IS_A_BOOK)

    def test_a_row_without_steps(self):
        self.assertEqual(book([[0, 1, 1]]), IS_A_BOOK)

    def test_a_row_with_one_act(self):
        self.assertEqual(book([[0, 3, 0, 0, 3, 0]]), IS_A_BOOK)

    def test_an_act_with_two_decks(self):
        self.assertEqual(book([[1, 4, 5, 6, 4, 1]]), IS_A_BOOK)

    def test_a_carry_alone_ahead_behind_and_between(self):
        act = [1, 3, 0]
        rows = [[0, 7, 5] + CARRY,
                [0, 7, 8] + CARRY + act,
                [0, 7, 9] + act + CARRY,
                [1, 7, 4] + act + CARRY + act]
        self.assertEqual(book(rows), IS_A_BOOK)

    def test_several_carries_in_a_row(self):
        # One carry at most is asked of a right rule, not of a book.
        self.assertEqual(book([[0, 1, 1] + CARRY * 10]), IS_A_BOOK)

    def test_ten_steps(self):
        self.assertEqual(book([[1, 9, 9] + [31, 15, 15] * 10]), IS_A_BOOK)

    def test_each_number_of_steps_to_ten(self):
        for steps in range(11):
            with self.subTest(steps=steps):
                self.assertEqual(book([[0, 5, 5] + [2, 1, 0] * steps]), IS_A_BOOK)

    def test_both_ops_for_the_same_digits(self):
        self.assertEqual(book([[0, 2, 3], [1, 2, 3]]), IS_A_BOOK)

    def test_each_op_d_x_by_itself(self):
        for head in every_head():
            with self.subTest(head=head):
                self.assertEqual(book([head]), IS_A_BOOK)

    def test_all_rules_together(self):
        self.assertEqual(book(every_head()), IS_A_BOOK)

    def test_rows_in_any_order(self):
        self.assertEqual(book(every_head()[::-1]), IS_A_BOOK)
        self.assertEqual(book([[1, 0, 0], [0, 19, 0], [0, 0, 19], [1, 19, 19], [0, 0, 0]]), IS_A_BOOK)

    def test_the_same_steps_for_several_rules(self):
        self.assertEqual(book([head + [0, 1, 0] for head in every_head()]), IS_A_BOOK)


class RowsThatCannotBe(unittest.TestCase):
    def check_bound(self, at, most, steps=1):
        """The number at that place of a row can be up to most, above it can't."""
        for number in (most - 1, most, most + 1, most + 2, 2 * most + 2, 255, 256, 65536, LARGEST):
            row = [0, 0, 0] + [1, 1, 1] * steps
            row[at] = number
            with self.subTest(at=at, number=number):
                self.assertEqual(book([row]), IS_A_BOOK if number <= most else fault_at(0))

    def test_op(self):
        self.check_bound(0, 1)
        self.check_bound(0, 1, steps=0)

    def test_d(self):
        self.check_bound(1, 19)
        self.check_bound(1, 19, steps=0)

    def test_x(self):
        self.check_bound(2, 19)
        self.check_bound(2, 19, steps=0)

    def test_stroke_of_each_step(self):
        for step in range(10):
            self.check_bound(3 + 3 * step, 31, steps=10)

    def test_n_of_each_step(self):
        for step in range(10):
            self.check_bound(4 + 3 * step, 15, steps=10)

    def test_k_of_each_step(self):
        for step in range(10):
            self.check_bound(5 + 3 * step, 15, steps=10)

    def test_every_step_near_the_bounds(self):
        for stroke in range(34):
            for n in range(18):
                for k in range(18):
                    act = stroke <= 31 and 1 <= n <= 15 and k <= 15
                    can_be = act or [stroke, n, k] == CARRY
                    answer = book([[0, 1, 1, stroke, n, k]])
                    self.assertEqual(answer, IS_A_BOOK if can_be else fault_at(0), (stroke, n, k))

    def test_n_0_but_in_a_carry(self):
        for step in ([1, 0, 0], [31, 0, 0], [0, 0, 1], [0, 0, 15], [1, 0, 1], [LARGEST, 0, 0], [0, 0, LARGEST]):
            with self.subTest(step=step):
                self.assertEqual(book([[0, 1, 1] + step]), fault_at(0))
                self.assertEqual(book([[0, 1, 1] + CARRY + step]), fault_at(0))
                self.assertEqual(book([[0, 1, 1] + step + CARRY]), fault_at(0))

    def test_k_0_in_an_act(self):
        self.assertEqual(book([[0, 1, 1, 31, 15, 0]]), IS_A_BOOK)
        self.assertEqual(book([[0, 1, 1, 0, 1, 0]]), IS_A_BOOK)

    def test_each_length_of_a_row(self):
        for filling in ([0] * 36, [1] * 36):
            for length in range(37):
                can_be = length in (3, 6, 9, 12, 15, 18, 21, 24, 27, 30, 33)
                with self.subTest(first=filling[0], length=length):
                    self.assertEqual(book([filling[:length]]), IS_A_BOOK if can_be else fault_at(0))

    def test_eleven_steps(self):
        for step in (CARRY, [0, 1, 0], [31, 15, 15]):
            with self.subTest(step=step):
                self.assertEqual(book([[0, 1, 1] + step * 10]), IS_A_BOOK)
                self.assertEqual(book([[0, 1, 1] + step * 11]), fault_at(0))

    def test_a_rule_told_twice(self):
        self.assertEqual(book([[0, 1, 1], [0, 1, 1]]), fault_at(1))
        self.assertEqual(book([[1, 19, 19, 0, 1, 0], [1, 19, 19, 0, 2, 0]]), fault_at(1))

    def test_a_row_without_steps_counts_as_told(self):
        self.assertEqual(book([[0, 1, 1], [0, 1, 1, 0, 1, 0]]), fault_at(1))
        self.assertEqual(book([[0, 1, 1, 0, 1, 0], [0, 1, 1]]), fault_at(1))

    def test_a_rule_told_again_further_on(self):
        self.assertEqual(book([[0, 1, 2], [0, 2, 1], [1, 1, 2], [0, 1, 2]]), fault_at(3))

    def test_rules_that_differ_in_one_number_or_in_order(self):
        self.assertEqual(book([[0, 1, 2], [1, 1, 2], [0, 2, 2], [0, 1, 1], [0, 2, 1]]), IS_A_BOOK)
        self.assertEqual(book([[0, 1, 11], [0, 11, 1], [1, 1, 11], [1, 11, 1], [0, 0, 19], [0, 1, 0]]), IS_A_BOOK)


class ThePlace(unittest.TestCase):
    def ways(self):
        """A row for each way in which a row by itself can't be."""
        return [[2, 0, 0], [0, 20, 0], [0, 0, 20], [], [0], [0, 0], [0, 0, 0, 1], [0, 0, 0, 1, 1],
                [0, 0, 0] + [1, 1, 1] * 11, [0, 0, 0, 32, 1, 0], [0, 0, 0, 0, 16, 0], [0, 0, 0, 1, 0, 0],
                [0, 0, 0, 0, 0, 1], [0, 0, 0, 0, 1, 16]]

    def test_each_way_in_each_row(self):
        good = [[1, 1, x, 0, 1, 0] for x in range(4)]
        for bad in self.ways():
            for place in range(5):
                with self.subTest(bad=bad, place=place):
                    self.assertEqual(book(good[:place] + [bad] + good[place:]), fault_at(place))

    def test_the_first_of_several(self):
        good = [1, 1, 1]
        for first in self.ways():
            for second in self.ways():
                with self.subTest(first=first, second=second):
                    self.assertEqual(book([good, first, second]), fault_at(1))

    def test_a_rule_told_twice_ahead_of_another_fault(self):
        for bad in self.ways():
            with self.subTest(bad=bad):
                self.assertEqual(book([[1, 1, 1], [1, 1, 1], bad]), fault_at(1))

    def test_a_rule_told_twice_behind_another_fault(self):
        for bad in self.ways():
            with self.subTest(bad=bad):
                self.assertEqual(book([[1, 1, 1], bad, [1, 1, 1]]), fault_at(1))

    def test_a_rule_told_three_times(self):
        self.assertEqual(book([[1, 1, 1], [1, 1, 2], [1, 1, 1], [1, 1, 1], [1, 1, 2]]), fault_at(2))

    def test_the_second_telling_is_the_place_not_the_first(self):
        self.assertEqual(book([[0, 5, 5], [0, 5, 6], [0, 5, 7], [0, 5, 6]]), fault_at(3))


class TheLargest(unittest.TestCase):
    def test_the_largest_number_at_each_place(self):
        for at in range(33):
            row = [0, 0, 0] + [1, 1, 1] * 10
            row[at] = LARGEST
            with self.subTest(at=at):
                self.assertEqual(book([[1, 0, 0], row]), fault_at(1))

    def test_rows_of_the_largest_numbers(self):
        self.assertEqual(book([[LARGEST] * 36] * 820), fault_at(0))
        self.assertEqual(book([[LARGEST] * 33]), fault_at(0))

    def test_all_rules_with_ten_steps(self):
        rows = [head + [31, 15, 15] * 10 for head in every_head()]
        self.assertEqual(len(rows), 800)
        self.assertEqual(book(rows), IS_A_BOOK)

    def test_the_last_row_of_a_full_book(self):
        rows = [head + [31, 15, 15] * 10 for head in every_head()]
        rows[799] = rows[799] + [31, 15, 15]
        self.assertEqual(book(rows), fault_at(799))
        rows[799] = rows[799][:32]
        self.assertEqual(book(rows), fault_at(799))

    def test_as_many_rows_as_can_be_handed_in(self):
        rows = every_head() + every_head()[:20]
        self.assertEqual(len(rows), 820)
        self.assertEqual(book(rows), fault_at(800))

    def test_as_many_and_as_long_rows_as_can_be_handed_in(self):
        rows = [head + [1, 1, 1] * 11 for head in every_head() + every_head()[:20]]
        self.assertEqual(len(rows), 820)
        self.assertEqual({len(row) for row in rows}, {36})
        self.assertEqual(book(rows), fault_at(0))


if __name__ == "__main__":
    unittest.main()
