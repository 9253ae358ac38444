"""The promises over the whole program: right, sum_of and best together."""

import itertools
import random
import unittest

from abacusbooks.books import best, book, right, sum_of
from makers import (AWAY, CARRY, EACH_DECK, SOROBAN, SUANPAN, TO_THE_BEAM, act_on, due, form, heads, is_due,
                    right_book, rows_of, span_of, standing_of)

BINARY = [2, 1, 1, 0, 0, 0, 0]
TERNARY = [3, 2, 1, 0, 0, 0, 0]
QUATERNARY = [4, 3, 1, 0, 0, 0, 0]
TWENTY = [20, 4, 1, 3, 5, 0, 0]
THREE_DECKS = [12, 2, 1, 1, 3, 1, 6]
RODS = (BINARY, TERNARY, SOROBAN, SUANPAN, THREE_DECKS, TWENTY, [7, 1, 5, 2, 3, 2, 1], [4, 1, 2, 2, 1, 2, 1])


def part(chance, deck, direction=None):
    return [deck, direction or chance.randrange(1, 3), chance.randrange(1, 16)]


def any_hand(chance):
    """Each deck by itself in either direction, dear or cheap, and whatever strokes besides."""
    strokes = [part(chance, deck, to) + [0, 0, 0] for deck in range(3) for to in (TO_THE_BEAM, AWAY)]
    for unused in range(chance.randrange(8)):
        deck, second = chance.sample(range(3), 2)
        strokes.append(part(chance, deck) + part(chance, second))
    chance.shuffle(strokes)
    return [chance.choice((0, 1, 255))] + [number for stroke in strokes
                                           for number in stroke + [chance.choice((1, 2, 5, 255))]]


class Sums(unittest.TestCase):
    """1 and 4: by a right book the sum comes, whatever the order, or it runs over; by a tour that costs that."""

    def check(self, given, value):
        op, order, h, v, make, hand, standing, rows = given
        with self.subTest(op=op, order=order, h=h, v=v, make=make, value=value):
            self.assertTrue(is_due(sum_of(*given), op, h, v, make, hand, value))

    def check_many(self, chance, make, hand, rows, times):
        span = span_of(make)
        for unused in range(times):
            value, v, h = chance.randrange(span), chance.randrange(span), chance.randrange(len(make) // 7)
            for v, value in ((v, value), (min(v, value), max(v, value)), (v, span - 1 - v), (v, max(0, v - 1))):
                for op, order in itertools.product(range(2), repeat=2):
                    self.check([op, order, h, v, make, hand, standing_of(make, value), rows], value)

    def test_by_books_that_right_tells_right(self):
        chance = random.Random(21)
        for rod in RODS:
            for rods in (1, 2, 9):
                rows = right_book(rod, chance.randrange(4))
                self.assertEqual(right(rod * rods, EACH_DECK, rows), [1])
                self.check_many(chance, rod * rods, EACH_DECK, rows, 8)

    def test_by_best_books(self):
        chance = random.Random(22)
        told = 0
        for unused in range(60):
            rod, hand, where = chance.choice(RODS), any_hand(chance), chance.randrange(2)
            answer = best(0, where, rod, hand)
            if answer[0] == 0:
                told += 1
                rows = rows_of(answer)
                rods = chance.choice((1, 2, 5, 64))
                self.assertEqual(book(rows), [0])
                self.assertEqual(right(rod * rods, hand, rows), [1])
                self.check_many(chance, rod * rods, hand, rows, 2)
        self.assertGreater(told, 40)

    def test_all_sums_of_two_rods_by_best_books(self):
        for rod in (BINARY, TERNARY, QUATERNARY, [4, 1, 2, 2, 1, 2, 1]):
            for where in range(2):
                rows = rows_of(best(0, where, rod, EACH_DECK))
                make = rod * 2
                values = range(span_of(make))
                for op, order, v, value in itertools.product(range(2), range(2), values, values):
                    given = [op, order, v % 2, v, make, EACH_DECK, standing_of(make, value), rows]
                    self.check(given, value)

    def test_never_too_long(self):
        # Each rule of nine acts and a carry, each digit's carry through all rods to its left: the most steps there are.
        rod = [10, 9, 1, 0, 0, 0, 0]
        slow = [1, 0, 1, 1, 0, 0, 0, 1] + [0, 2, 1, 0, 0, 0, 1]
        nines = 10 ** 63 - 1
        for where in range(2):
            rows = rows_of(best(0, where, rod, slow))
            self.assertEqual(right(rod * 64, slow, rows), [1])
            for order in range(2):
                for v, value in ((nines, nines), (nines, 1), (1, nines), (nines // 9, nines), (10 * nines, 10 * nines)):
                    for op in range(2):
                        self.check([op, order, 63, v, rod * 64, slow, standing_of(rod * 64, value), rows], value)

    def test_in_both_orders_the_same_stands_then(self):
        chance = random.Random(23)
        rows = right_book(SOROBAN, 1)
        make = SOROBAN * 6
        for unused in range(100):
            op, v, value = chance.randrange(2), chance.randrange(10 ** 6), chance.randrange(10 ** 6)
            left, right_first = [sum_of(op, order, 0, v, make, EACH_DECK, standing_of(make, value), rows)
                                 for order in range(2)]
            self.assertEqual((left[0], left[2:20]), (right_first[0], right_first[2:20]))

    def test_there_and_back_again(self):
        chance = random.Random(24)
        rows = right_book(THREE_DECKS)
        make = THREE_DECKS * 5
        for unused in range(60):
            value = chance.randrange(12 ** 5)
            v = chance.randrange(12 ** 5 - value)
            standing = standing_of(make, value)
            there = sum_of(0, chance.randrange(2), 0, v, make, EACH_DECK, standing, rows)[2:17]
            self.assertEqual(sum_of(1, chance.randrange(2), 0, v, make, EACH_DECK, there, rows)[2:17], standing)


class Wrong(unittest.TestCase):
    """2: what's told wrong is wrong, where the rod shows x by itself and d is added there."""

    # It stands on the left and shows 10, which the rods judged here have not: each carry makes it one more.
    COUNTER = [20, 15, 1, 15, 1, 0, 0]
    COUNTS = [[op, 1, x, 6, 1, 0] for op in range(2) for x in range(10, 14)]
    HAND = EACH_DECK + [0, 1, 15, 0, 0, 0, 1]

    def outcome(self, rod, head, rows):
        """What comes of d on x: nothing if it goes wrong, else how the rod ends and how many carries came."""
        op, d, x = head
        make = rod + self.COUNTER
        standing = list(form(rod, x)) + [10, 0, 0]
        answer = sum_of(op, 0, 0, d, make, self.HAND, standing, rows + self.COUNTS)
        if answer == [-9]:
            return None
        self.assertEqual(answer[0], 0)
        return tuple(answer[2:5]), answer[5] - 10

    def spoiled(self, chance, row):
        """A row with other steps."""
        steps = [row[at:at + 3] for at in range(3, len(row), 3)]
        kind = chance.randrange(4)
        if kind == 0 and steps:
            steps.pop(chance.randrange(len(steps)))
        elif kind == 1:
            steps.insert(chance.randrange(len(steps) + 1), CARRY)
        elif kind == 2:
            steps.append(act_on(chance.randrange(3), chance.randrange(1, 3), chance.randrange(1, 4)))
        else:
            chance.shuffle(steps)
        return row[:3] + sum(steps, [])

    def test_just_the_wrong_rules_end_otherwise(self):
        chance = random.Random(25)
        whys = {}
        for unused in range(300):
            rod = chance.choice((BINARY, TERNARY, QUATERNARY, [7, 1, 5, 2, 3, 2, 1], [6, 3, 1, 2, 3, 0, 0], SOROBAN))
            rows = right_book(rod, chance.randrange(3))
            for more in range(chance.randrange(1, 4)):
                at = chance.randrange(len(rows))
                rows[at] = self.spoiled(chance, rows[at])
            told = right(rod, self.HAND, rows)
            for head in heads(rod):
                goal, carries = due(rod, head)
                asked = form(rod, goal), carries
                outcome = self.outcome(rod, head, rows)
                with self.subTest(rod=rod, rows=rows, head=head):
                    if told != [1] and head == told[2:5]:
                        self.assertNotEqual(outcome, asked)
                        self.assertEqual(told[5], 1 if outcome is None else 2 if outcome[0] != asked[0] else 3)
                        whys[told[5]] = True
                        break
                    self.assertEqual(outcome, asked)
        self.assertEqual(sorted(whys), [1, 2, 3])


class BestBooks(unittest.TestCase):
    """3: the best book is right wherever it's told, and no right book has a rule whose acts cost less."""

    def spent(self, hand, row):
        steps = [row[at:at + 3] for at in range(3, len(row), 3)]
        return sum(hand[7 + 7 * step[0]] for step in steps if step != CARRY)

    def test_no_right_book_is_cheaper(self):
        chance = random.Random(26)
        for rod in RODS:
            for unused in range(4):
                # The strokes of each deck stand first, at whatever they cost, so that the other book is right too.
                hand = [number if at % 7 else chance.randrange(1, 256) for at, number in enumerate(EACH_DECK)]
                hand += any_hand(chance)[1:]
                rows = right_book(rod, chance.randrange(3))
                self.assertEqual(right(rod, hand, rows), [1])
                answer = best(0, chance.randrange(2), rod, hand)
                # Where all cheapest tours are short enough; a right book has none that costs less.
                if answer[0] == 0:
                    for row, other in zip(rows_of(answer), rows):
                        self.assertEqual(row[:3], other[:3])
                        self.assertLessEqual(self.spent(hand, row), self.spent(hand, other))

    def test_right_on_other_rods_too_where_the_forms_are_the_same(self):
        rows = rows_of(best(0, 0, SOROBAN, EACH_DECK))
        self.assertEqual(right(SOROBAN + SUANPAN + [10, 4, 1, 1, 5, 1, 63], EACH_DECK, rows), [1])

    def test_the_best_of_each_rod_of_a_make(self):
        make = BINARY + SOROBAN + TWENTY + THREE_DECKS
        for number, rod in enumerate((BINARY, SOROBAN, TWENTY, THREE_DECKS)):
            for where in range(2):
                rows = rows_of(best(number, where, make, EACH_DECK))
                self.assertEqual(right(rod, EACH_DECK, rows), [1])
                self.assertEqual(len(rows), 2 * (rod[0] - 1) * rod[0])


if __name__ == "__main__":
    unittest.main()
