"""The call best where a book comes: the cheapest tours, and the first of those that cost the same."""

import random
import time
import unittest

from abacusbooks.books import best, right
from makers import (AWAY, CARRY, EACH_DECK, SOROBAN, SUANPAN, TO_THE_BEAM, beads, best_of, due, each_act, form, heads,
                    rows_of, triples)

BINARY = [2, 1, 1, 0, 0, 0, 0]
TERNARY = [3, 2, 1, 0, 0, 0, 0]
QUATERNARY = [4, 3, 1, 0, 0, 0, 0]
FIVE = [5, 4, 1, 0, 0, 0, 0]
TWENTY = [20, 4, 1, 3, 5, 0, 0]
THREE_DECKS = [12, 2, 1, 1, 3, 1, 6]


def stroke(deck, direction, most=15, cost=1):
    return [deck, direction, most, 0, 0, 0, cost]


def both(deck, direction, most, second, to, second_most, cost=1):
    return [deck, direction, most, second, to, second_most, cost]


def hand(*strokes):
    return [0] + sum(strokes, [])


# Each deck by itself and away again, so that there's always a way.
BACK = (stroke(0, AWAY), stroke(1, TO_THE_BEAM), stroke(1, AWAY))


def rule(rod, strokes, op, d, x, where=0):
    """The steps that best tells for one op, d, x."""
    for row in rows_of(best(0, where, rod, strokes)):
        if row[:3] == [op, d, x]:
            return triples(row[3:])


class ByHand(unittest.TestCase):
    def test_the_smallest(self):
        there_and_back = hand(stroke(0, TO_THE_BEAM, 1), stroke(0, AWAY, 1))
        first = [0, 0, 1, 0, 1, 0, 1, 0] + [0, 1, 1, 2, 0, 0, 0, 1, 1, 0] + [1, 1, 0, 2, 0, 0, 0, 0, 1, 0]
        self.assertEqual(best(0, 0, BINARY, there_and_back), first + [1, 1, 1, 1, 1, 1, 0])
        behind = [0, 0, 1, 0, 1, 0, 1, 0] + [0, 1, 1, 2, 1, 1, 0, 0, 0, 0] + [1, 1, 0, 2, 0, 1, 0, 0, 0, 0]
        self.assertEqual(best(0, 1, BINARY, there_and_back), behind + [1, 1, 1, 1, 1, 1, 0])

    def test_a_rod_of_three(self):
        two = hand(stroke(0, TO_THE_BEAM, 2), stroke(0, AWAY, 2))
        add = [0, 1, 0, 1, 0, 1, 0] + [0, 1, 1, 1, 0, 1, 0] + [0, 1, 2, 2, 0, 0, 0, 1, 2, 0]
        add += [0, 2, 0, 1, 0, 2, 0] + [0, 2, 1, 2, 0, 0, 0, 1, 1, 0] + [0, 2, 2, 2, 0, 0, 0, 1, 1, 0]
        take = [1, 1, 0, 2, 0, 0, 0, 0, 2, 0] + [1, 1, 1, 1, 1, 1, 0] + [1, 1, 2, 1, 1, 1, 0]
        take += [1, 2, 0, 2, 0, 0, 0, 0, 1, 0] + [1, 2, 1, 2, 0, 0, 0, 0, 1, 0] + [1, 2, 2, 1, 1, 2, 0]
        self.assertEqual(best(0, 0, TERNARY, two), [0] + add + take)

    def test_seven_where_eight_stands(self):
        self.assertEqual(rule(SOROBAN, EACH_DECK, 0, 7, 8), [CARRY, [1, 3, 0]])
        self.assertEqual(rule(SOROBAN, EACH_DECK, 0, 7, 8, where=1), [[1, 3, 0], CARRY])

    def test_one_where_four_stands(self):
        self.assertEqual(rule(SOROBAN, EACH_DECK, 0, 1, 4), [[1, 4, 0], [2, 1, 0]])
        self.assertEqual(rule(SOROBAN, EACH_DECK, 0, 1, 9), [CARRY, [1, 4, 0], [3, 1, 0]])
        self.assertEqual(rule(SOROBAN, EACH_DECK, 0, 1, 9, where=1), [[1, 4, 0], [3, 1, 0], CARRY])

    def test_the_rod_of_the_make(self):
        make = TERNARY + SOROBAN + BINARY
        for number, rod in enumerate((TERNARY, SOROBAN, BINARY)):
            self.assertEqual(best(number, 0, make, EACH_DECK), best(0, 0, rod, EACH_DECK))
            self.assertEqual(best(number, 1, make, EACH_DECK), best_of(rod, 1, EACH_DECK))

    def test_moving_over_costs_nothing_on_one_rod(self):
        for over in (0, 1, 255):
            self.assertEqual(best(0, 0, SOROBAN * 64, [over] + EACH_DECK[1:]), best_of(SOROBAN, 0, EACH_DECK))
            self.assertEqual(best(63, 0, SOROBAN * 64, [over] + EACH_DECK[1:]), best_of(SOROBAN, 0, EACH_DECK))


class Shape(unittest.TestCase):
    def test_rule_by_rule_in_order(self):
        for rod in (BINARY, TERNARY, SOROBAN, TWENTY, THREE_DECKS):
            for where in range(2):
                with self.subTest(rod=rod, where=where):
                    rows = rows_of(best(0, where, rod, EACH_DECK))
                    self.assertEqual([row[:3] for row in rows], heads(rod))

    def test_a_carry_where_one_is_due(self):
        for rod in (BINARY, TERNARY, SOROBAN, TWENTY, THREE_DECKS):
            for where in range(2):
                for row in rows_of(best(0, where, rod, EACH_DECK)):
                    steps = triples(row[3:])
                    carries = due(rod, row[:3])[1]
                    with self.subTest(rod=rod, where=where, row=row):
                        self.assertEqual(steps.count(CARRY), carries)
                        if carries:
                            self.assertEqual(steps.index(CARRY), len(steps) - 1 if where else 0)
                            self.assertGreater(len(steps), 1)

    def test_d_and_x_at_both_ends(self):
        for rod in (BINARY, SOROBAN, TWENTY):
            last = rod[0] - 1
            rows = {tuple(row[:3]): triples(row[3:]) for row in rows_of(best(0, 0, rod, EACH_DECK))}
            self.assertEqual(rows[(0, 1, 0)], [[0, 1, 0]])
            self.assertEqual(rows[(1, 1, 1)], [[1, 1, 0]])
            self.assertEqual(rows[(0, 1, last)][0], CARRY)
            self.assertEqual(rows[(1, 1, 0)][0], CARRY)
            self.assertEqual(len(rows), 2 * last * rod[0])
            self.assertNotIn(CARRY, rows[(0, last, 0)])
            self.assertNotIn(CARRY, rows[(1, last, last)])


class Cheapest(unittest.TestCase):
    def check(self, expected, rod, strokes, op, d, x):
        self.assertEqual(best(0, 0, rod, strokes), best_of(rod, 0, strokes))
        self.assertEqual(rule(rod, strokes, op, d, x), expected)

    def test_a_dear_stroke_against_several_cheap_ones(self):
        # Up to four beads cost 3, single ones 2 each.
        strokes = hand(stroke(0, TO_THE_BEAM, 1, 2), stroke(0, TO_THE_BEAM, 4, 3), stroke(0, AWAY))
        self.check([[0, 1, 0]], FIVE, strokes, 0, 1, 0)
        self.check([[1, 2, 0]], FIVE, strokes, 0, 2, 0)
        self.check([[1, 4, 0]], FIVE, strokes, 0, 4, 0)
        # At 7 three single ones are cheaper, at 255 four are.
        strokes = hand(stroke(0, TO_THE_BEAM, 4, 7), stroke(0, TO_THE_BEAM, 1, 2), stroke(0, AWAY))
        self.check([[1, 1, 0]] * 3, FIVE, strokes, 0, 3, 0)
        self.check([[0, 4, 0]], FIVE, strokes, 0, 4, 0)
        strokes = hand(stroke(0, TO_THE_BEAM, 4, 255), stroke(0, TO_THE_BEAM, 1, 63), stroke(0, AWAY))
        self.check([[1, 1, 0]] * 4, FIVE, strokes, 0, 4, 0)
        strokes = hand(stroke(0, TO_THE_BEAM, 4, 251), stroke(0, TO_THE_BEAM, 1, 63), stroke(0, AWAY))
        self.check([[0, 4, 0]], FIVE, strokes, 0, 4, 0)

    def test_costs_of_1_and_of_255(self):
        strokes = hand(stroke(0, TO_THE_BEAM, 15, 255), stroke(0, TO_THE_BEAM, 1, 1), stroke(0, AWAY, 15, 255))
        self.check([[1, 1, 0]] * 4, FIVE, strokes, 0, 4, 0)
        self.check([CARRY, [2, 4, 0]], FIVE, strokes, 0, 1, 4)
        self.check([[2, 1, 0]], FIVE, strokes, 1, 1, 4)

    def test_two_decks_at_once_against_one_behind_another(self):
        # From 4 to 5: four away and one there, at once for 3 or one behind another for 2.
        strokes = hand(stroke(0, TO_THE_BEAM), both(0, AWAY, 4, 1, TO_THE_BEAM, 1, 3), *BACK)
        self.check([[2, 4, 0], [3, 1, 0]], SOROBAN, strokes, 0, 1, 4)
        strokes = hand(stroke(0, TO_THE_BEAM), both(0, AWAY, 4, 1, TO_THE_BEAM, 1, 1), *BACK)
        self.check([[1, 4, 1]], SOROBAN, strokes, 0, 1, 4)
        # From 3 to 5 with at most two at once: one goes by itself.
        strokes = hand(stroke(0, TO_THE_BEAM, 15, 9), both(1, TO_THE_BEAM, 1, 0, AWAY, 2, 4), stroke(0, AWAY, 15, 5),
                       stroke(1, TO_THE_BEAM, 15, 9), stroke(1, AWAY, 15, 9))
        self.check([[1, 1, 1], [2, 2, 0]], SOROBAN, strokes, 0, 2, 3)

    def test_a_way_round(self):
        # One to the beam is dear by itself: with a bead of five there, which then goes away, it's cheaper.
        strokes = hand(stroke(0, TO_THE_BEAM, 15, 255), both(0, TO_THE_BEAM, 1, 1, TO_THE_BEAM, 1, 1), stroke(1, AWAY),
                       stroke(0, AWAY), stroke(1, TO_THE_BEAM))
        self.check([[1, 1, 1], [2, 1, 0]], SOROBAN, strokes, 0, 1, 0)

    def test_through_a_count_that_is_no_digit(self):
        # The second deck's bead is worth 63: no digit has it at the beam, but the way leads through.
        rod = [3, 2, 1, 1, 63, 0, 0]
        strokes = hand(both(0, TO_THE_BEAM, 2, 1, TO_THE_BEAM, 1), stroke(1, AWAY), stroke(0, AWAY))
        self.check([[0, 1, 1], [1, 1, 0]], rod, strokes, 0, 1, 0)
        self.check([[0, 2, 1], [1, 1, 0]], rod, strokes, 0, 2, 0)
        self.check([CARRY, [0, 1, 1], [1, 1, 0]], rod, strokes, 1, 2, 0)

    def test_through_standings_that_are_not_in_form(self):
        # Beads of five come with single ones alone: 5 stands as five and five, and the five single ones go again.
        strokes = hand(stroke(0, TO_THE_BEAM), both(1, TO_THE_BEAM, 1, 0, TO_THE_BEAM, 5), stroke(0, AWAY, 1, 2),
                       stroke(0, AWAY, 15, 7), stroke(1, AWAY))
        self.check([[1, 1, 1], [2, 1, 0]], SUANPAN, strokes, 0, 5, 0)
        self.check([[1, 1, 1], [3, 5, 0]], SUANPAN, strokes, 0, 1, 4)
        # A bead of five goes away for 200 by itself, for 2 by way of a bead of deck 2, which no digit has.
        strokes = hand(stroke(0, TO_THE_BEAM), stroke(0, AWAY), stroke(1, TO_THE_BEAM), stroke(1, AWAY, 1, 200),
                       both(1, AWAY, 2, 2, TO_THE_BEAM, 1), stroke(2, AWAY))
        rod = [10, 5, 1, 2, 5, 1, 63]
        self.check([CARRY, [1, 4, 0], [4, 1, 1], [5, 1, 0]], rod, strokes, 0, 1, 9)

    def test_strokes_that_turn_one_into_another(self):
        # Single beads never come by themselves: one of two comes, and is turned into two single ones.
        rod = [4, 3, 1, 1, 2, 0, 0]
        strokes = hand(stroke(1, TO_THE_BEAM), both(1, AWAY, 1, 0, TO_THE_BEAM, 2), stroke(0, AWAY), stroke(1, AWAY))
        self.check([[0, 1, 0], [1, 1, 1]], rod, strokes, 0, 1, 0)
        self.check([[0, 1, 0], [1, 1, 1], [0, 1, 0]], rod, strokes, 0, 3, 0)


class TheFirst(unittest.TestCase):
    """Of tours that cost the same, the first by stroke, then n, then k, act by act."""

    def check(self, expected, rod, strokes, op, d, x):
        self.assertEqual(best(0, 0, rod, strokes), best_of(rod, 0, strokes))
        self.assertEqual(rule(rod, strokes, op, d, x), expected)

    def test_the_same_stroke_twice(self):
        strokes = hand(stroke(0, AWAY), stroke(0, TO_THE_BEAM), stroke(0, TO_THE_BEAM), stroke(0, AWAY))
        self.check([[1, 2, 0]], FIVE, strokes, 0, 2, 0)
        self.check([[0, 2, 0]], FIVE, strokes, 1, 2, 3)

    def test_more_acts_with_an_earlier_stroke(self):
        strokes = hand(stroke(0, TO_THE_BEAM, 1, 1), stroke(0, TO_THE_BEAM, 3, 3), stroke(0, AWAY))
        self.check([[0, 1, 0]] * 3, QUATERNARY, strokes, 0, 3, 0)

    def test_fewer_acts_with_an_earlier_stroke(self):
        strokes = hand(stroke(0, TO_THE_BEAM, 3, 3), stroke(0, TO_THE_BEAM, 1, 1), stroke(0, AWAY))
        self.check([[0, 3, 0]], QUATERNARY, strokes, 0, 3, 0)

    def test_an_earlier_first_act_though_a_later_stroke_follows(self):
        # 5 beads for 4: one by stroke 0 and four by stroke 1 ahead of all five by stroke 1, and by stroke 2.
        rod = [6, 5, 1, 0, 0, 0, 0]
        strokes = hand(stroke(0, TO_THE_BEAM, 1, 1), stroke(0, TO_THE_BEAM, 4, 3), stroke(0, TO_THE_BEAM, 5, 4),
                       stroke(0, AWAY))
        self.check([[0, 1, 0], [1, 4, 0]], rod, strokes, 0, 5, 0)

    def test_the_stroke_comes_ahead_of_n(self):
        # Three beads, two at most at once: one and two by stroke 0, ahead of one by stroke 0 and two by stroke 1.
        strokes = hand(stroke(0, TO_THE_BEAM, 2), stroke(0, TO_THE_BEAM, 2), stroke(0, AWAY))
        self.check([[0, 1, 0], [0, 2, 0]], QUATERNARY, strokes, 0, 3, 0)

    def test_fewer_beads_first(self):
        rod = [8, 7, 1, 0, 0, 0, 0]
        strokes = hand(stroke(0, TO_THE_BEAM, 3), stroke(0, AWAY))
        self.check([[0, 1, 0], [0, 3, 0], [0, 3, 0]], rod, strokes, 0, 7, 0)
        self.check([[0, 1, 0], [0, 3, 0]], rod, strokes, 0, 4, 0)
        self.check([[0, 2, 0], [0, 3, 0]], rod, strokes, 0, 5, 0)
        self.check([[0, 3, 0], [0, 3, 0]], rod, strokes, 0, 6, 0)

    def test_fewer_beads_of_the_second_deck_first(self):
        rod = [13, 4, 1, 4, 4, 0, 0]
        strokes = hand(both(0, TO_THE_BEAM, 1, 1, TO_THE_BEAM, 2), stroke(0, AWAY), stroke(1, AWAY),
                       stroke(0, TO_THE_BEAM, 15, 9), stroke(1, TO_THE_BEAM, 15, 9))
        # From 0 to 12: three of deck 1, by two acts, whose single beads then go.
        self.check([[0, 1, 1], [0, 1, 2], [1, 2, 0]], rod, strokes, 0, 12, 0)

    def test_n_comes_ahead_of_k(self):
        # Three of each by two acts: 1 1 then 2 2 comes ahead of 1 2 then 2 1, and that ahead of 2 1 then 1 2.
        rod = [16, 3, 1, 3, 4, 0, 0]
        strokes = hand(both(0, TO_THE_BEAM, 2, 1, TO_THE_BEAM, 2), stroke(0, AWAY), stroke(1, AWAY),
                       stroke(0, TO_THE_BEAM, 15, 9), stroke(1, TO_THE_BEAM, 15, 9))
        self.check([[0, 1, 1], [0, 2, 2]], rod, strokes, 0, 15, 0)

    def test_decks_in_the_order_of_the_strokes(self):
        # One of deck 0 and one of deck 1: which goes first is told by the numbers of their strokes.
        ones, fives = stroke(0, TO_THE_BEAM), stroke(1, TO_THE_BEAM)
        away = (stroke(0, AWAY), stroke(1, AWAY))
        self.check([[0, 1, 0], [1, 1, 0]], SOROBAN, hand(ones, fives, *away), 0, 6, 0)
        self.check([[0, 1, 0], [1, 1, 0]], SOROBAN, hand(fives, ones, *away), 0, 6, 0)
        self.check([CARRY, [2, 4, 0], [3, 1, 0]], SOROBAN, hand(ones, fives, *away), 0, 1, 9)
        self.check([CARRY, [0, 1, 0], [1, 4, 0]], SOROBAN, hand(*away[::-1], ones, fives), 0, 1, 9)

    def test_two_decks_at_once_for_the_same(self):
        apart = (stroke(0, AWAY), stroke(1, TO_THE_BEAM))
        at_once = both(0, AWAY, 4, 1, TO_THE_BEAM, 1, 2)
        rest = (stroke(0, TO_THE_BEAM), stroke(1, AWAY))
        self.check([[0, 4, 1]], SOROBAN, hand(at_once, *apart, *rest), 0, 1, 4)
        self.check([[0, 4, 0], [1, 1, 0]], SOROBAN, hand(*apart, at_once, *rest), 0, 1, 4)
        # Stroke 0 comes ahead of both at once, though stroke 2 has to follow.
        self.check([[0, 4, 0], [2, 1, 0]], SOROBAN, hand(apart[0], at_once, apart[1], *rest), 0, 1, 4)

    def test_the_same_move_written_with_its_decks_turned(self):
        turned = both(1, TO_THE_BEAM, 1, 0, AWAY, 4)
        plain = both(0, AWAY, 4, 1, TO_THE_BEAM, 1)
        rest = (stroke(0, TO_THE_BEAM), *BACK)
        self.check([[0, 1, 4]], SOROBAN, hand(turned, plain, *rest), 0, 1, 4)
        self.check([[0, 4, 1]], SOROBAN, hand(plain, turned, *rest), 0, 1, 4)


class AllTours(unittest.TestCase):
    """All tours up to what best's cost are gone through: none costs less, and none of the same cost comes first."""

    HANDS = (
        hand(stroke(0, TO_THE_BEAM, 1), stroke(0, AWAY, 2), stroke(1, TO_THE_BEAM, 1), stroke(1, AWAY, 1)),
        hand(both(0, TO_THE_BEAM, 1, 1, AWAY, 1), stroke(1, TO_THE_BEAM, 1, 2), stroke(0, AWAY, 1), stroke(1, AWAY, 1)),
        hand(stroke(0, AWAY, 2, 3), stroke(0, AWAY, 1, 2), stroke(0, TO_THE_BEAM, 2, 3), stroke(0, TO_THE_BEAM, 1, 2),
             both(1, TO_THE_BEAM, 1, 0, AWAY, 2, 4), stroke(1, TO_THE_BEAM, 1, 1), stroke(1, AWAY, 1, 1)),
        hand(both(1, AWAY, 1, 0, AWAY, 1), both(1, TO_THE_BEAM, 1, 0, TO_THE_BEAM, 1), stroke(0, AWAY, 1, 2),
             stroke(1, AWAY, 1, 2)),
    )
    RODS = ([3, 2, 1, 1, 2, 0, 0], [4, 2, 1, 1, 2, 0, 0], [4, 2, 1, 1, 3, 0, 0], [3, 2, 1, 2, 1, 0, 0])

    def tours(self, rod, strokes, start, most):
        """Each tour that costs so much at most: the cost, the acts, what is pushed then."""
        ahead = [(0, [], start)]
        while ahead:
            spent, acts, pushed = ahead.pop()
            yield spent, acts, pushed
            for act, behind, more in each_act(rod, strokes, pushed):
                if spent + more <= most:
                    ahead.append((spent + more, acts + [list(act)], behind))

    def test_none_costs_less(self):
        gone_through = 0
        for rod in self.RODS:
            for strokes in self.HANDS:
                answer = best(0, 0, rod, strokes)
                self.assertEqual(answer[0], 0)
                for row in rows_of(answer):
                    acts = [step for step in triples(row[3:]) if step != CARRY]
                    spent = sum(strokes[7 + 7 * act[0]] for act in acts)
                    goal = form(rod, due(rod, row[:3])[0])
                    found = [tour[:2] for tour in self.tours(rod, strokes, form(rod, row[2]), spent) if tour[2] == goal]
                    with self.subTest(rod=rod, strokes=strokes, row=row):
                        self.assertEqual(min(found), (spent, acts))
                    gone_through += 1
        self.assertGreater(gone_through, 200)


class AgainstToursFromTheirBeginning(unittest.TestCase):
    def test_many_small_rods_and_hands(self):
        chance = random.Random(12)
        ends = {}
        for unused in range(600):
            rod = self.rod(chance)
            strokes = self.hand(chance, rod)
            where = chance.randrange(2)
            with self.subTest(rod=rod, hand=strokes, where=where):
                answer = best(0, where, rod, strokes)
                self.assertEqual(answer, best_of(rod, where, strokes))
                if answer[0] == 0:
                    self.assertEqual(right(rod, strokes, rows_of(answer)), [1])
            ends[answer[0]] = ends.get(answer[0], 0) + 1
        self.assertGreater(min(ends[0], ends[-2]), 50)

    def test_larger_rods(self):
        chance = random.Random(13)
        for rod in (SOROBAN, SUANPAN, TWENTY, THREE_DECKS, [20, 9, 1, 5, 4, 0, 0], [11, 4, 1, 3, 3, 2, 5]):
            for unused in range(3):
                strokes = self.hand(chance, rod, most=9)
                with self.subTest(rod=rod, hand=strokes):
                    self.assertEqual(best(0, 0, rod, strokes), best_of(rod, 0, strokes))

    def rod(self, chance):
        """A rod of up to three decks, of whatever ratio it can have."""
        while True:
            decks = [(chance.randrange(1, 5), chance.choice((1, 1, 1, 2, 3)))]
            decks += [(chance.randrange(1, 4), chance.randrange(1, 7)) for more in range(chance.randrange(3))]
            rod = [2] + [number for deck in decks + [(0, 0)] * (3 - len(decks)) for number in deck]
            highest = next(number for number in range(1, 99) if form(rod, number) is None)
            if highest >= 2:
                return [chance.randrange(2, min(20, highest) + 1)] + rod[1:]

    def hand(self, chance, rod, most=3):
        decks = [deck for deck in range(3) if beads(rod)[deck]]
        strokes = []
        for unused in range(chance.randrange(9)):
            first, second = chance.choice(decks), chance.choice(decks)
            part = [second, chance.randrange(1, 3), chance.randrange(1, most + 1)]
            strokes.append([first, chance.randrange(1, 3), chance.randrange(1, most + 1)]
                           + (part if first != second else [0, 0, 0]) + [chance.choice((1, 1, 2, 3, 100, 255))])
        if chance.randrange(4):
            strokes += [stroke(deck, to, chance.randrange(1, most + 1), chance.choice((1, 2, 3, 5, 255)))
                        for deck in decks for to in (TO_THE_BEAM, AWAY)]
        chance.shuffle(strokes)
        return [chance.randrange(256)] + sum(strokes, [])


class InTime(unittest.TestCase):
    LARGE = ([20, 15, 1, 15, 1, 15, 1], [20, 15, 1, 15, 2, 15, 3], [20, 15, 4, 15, 1, 15, 2], [20, 15, 1, 15, 1, 0, 0],
             [16, 15, 1, 0, 0, 0, 0], [20, 15, 1, 15, 16, 0, 0], [2, 15, 1, 15, 1, 15, 1])

    def check(self, rod, strokes):
        begun = time.perf_counter()
        answer = best(0, 0, rod, strokes)
        self.assertLess(time.perf_counter() - begun, 10)
        if answer[0] == 0:
            self.assertEqual(right(rod, strokes, rows_of(answer)), [1])
        return answer[0]

    def strokes(self, chance, most, costs):
        """32 strokes on two decks each."""
        strokes = [0]
        for unused in range(32):
            deck, second = chance.sample(range(3), 2)
            strokes += [deck, chance.randrange(1, 3), chance.randint(*most), second, chance.randrange(1, 3),
                        chance.randint(*most), chance.randint(*costs)]
        return strokes

    def test_32_strokes_on_two_decks_with_15_beads_each(self):
        chance = random.Random(14)
        for rod in self.LARGE:
            for costs in ((1, 1), (255, 255), (1, 255), (200, 255)):
                for most in ((15, 15), (1, 15)):
                    with self.subTest(rod=rod, costs=costs, most=most):
                        answer = self.check(rod, self.strokes(chance, most, costs))
                        if most == (15, 15) and beads(rod)[2]:
                            self.assertEqual(answer, 0)

    def test_few_beads_at_a_time(self):
        # Long tours, and as many costs as can be.
        chance = random.Random(15)
        for rod in self.LARGE:
            for most in ((1, 1), (1, 2), (1, 3)):
                for costs in ((1, 255), (200, 255)):
                    with self.subTest(rod=rod, most=most, costs=costs):
                        self.check(rod, self.strokes(chance, most, costs))

    def test_each_deck_one_bead_at_a_time(self):
        for rod in self.LARGE:
            strokes = hand(*[stroke(deck, to, 1, cost) for deck, cost in ((0, 1), (1, 16), (2, 255))
                             for to in (TO_THE_BEAM, AWAY)])
            self.check(rod, strokes)

    def test_a_large_rod_against_tours_from_their_beginning(self):
        rod = [20, 7, 1, 7, 1, 7, 1]
        strokes = hand(stroke(0, TO_THE_BEAM, 7, 3), stroke(0, AWAY, 7, 3), stroke(2, AWAY, 7, 1),
                       stroke(1, AWAY, 2, 1), both(1, TO_THE_BEAM, 7, 2, TO_THE_BEAM, 7, 2),
                       both(1, AWAY, 7, 0, TO_THE_BEAM, 3, 2))
        self.assertEqual(best(0, 1, rod, strokes), best_of(rod, 1, strokes))


if __name__ == "__main__":
    unittest.main()
