"""What several tests make their inputs with; it takes nothing from the package."""

import functools
import heapq
import itertools
import math

LARGEST = 4294967295
CARRY = [0, 0, 0]
TO_THE_BEAM, AWAY = 1, 2

SOROBAN = [10, 4, 1, 1, 5, 0, 0]
SUANPAN = [10, 5, 1, 2, 5, 0, 0]
# Each deck by itself, up to all its beads, in either direction: any standing leads to any other.
EACH_DECK = [7] + [number for deck in range(3) for direction in (TO_THE_BEAM, AWAY)
                   for number in (deck, direction, 15, 0, 0, 0, 1)]


def act_on(deck, direction, n):
    """An act of EACH_DECK."""
    return [2 * deck + direction - 1, n, 0]


def beads(rod):
    return rod[1::2]


def form(rod, digit):
    """A digit's form, by looking at all ways to push beads; None if it can't be pushed."""
    return form_of_rod(tuple(rod), digit)


@functools.lru_cache(maxsize=None)
def form_of_rod(rod, digit):
    ways = [way for way in itertools.product(*[range(number + 1) for number in beads(rod)])
            if sum(pushed * worth for pushed, worth in zip(way, rod[2::2])) == digit]
    return min(ways, key=lambda way: (sum(way), -way[0], -way[1]), default=None)


def shown(rod, pushed):
    """The digit that's pushed in its form, None if none is."""
    digits = [digit for digit in range(rod[0]) if form(rod, digit) == tuple(pushed)]
    return digits[0] if digits else None


def span_of(make):
    return math.prod(make[::7])


def standing_of(make, value):
    """The standing in form of a value below the span."""
    standing = []
    for rod in rods_in(make):
        standing += form(rod, value % rod[0])
        value //= rod[0]
    return standing


def acts_between(start, goal):
    """Acts of EACH_DECK from one way to push beads to another."""
    acts = []
    for deck in range(3):
        if goal[deck] > start[deck]:
            acts.append(act_on(deck, TO_THE_BEAM, goal[deck] - start[deck]))
        if goal[deck] < start[deck]:
            acts.append(act_on(deck, AWAY, start[deck] - goal[deck]))
    return acts


def rule_row(rod, op, d, x, carry_at=0):
    """A right rule's row for a hand that begins with the strokes of EACH_DECK; the carry stands ahead of that act."""
    ratio = rod[0]
    due = x - d if op else x + d
    steps = acts_between(form(rod, x), form(rod, due % ratio))
    if not 0 <= due < ratio:
        steps.insert(carry_at, CARRY)
    return [op, d, x] + sum(steps, [])


def right_book(rod, carry_at=0):
    ratio = rod[0]
    return [rule_row(rod, op, d, x, carry_at) for op in range(2) for d in range(1, ratio) for x in range(ratio)]


def sides_of(rod, pushed):
    """A side for each single bead, deck by deck: where it stands is the direction that leads there."""
    return [[TO_THE_BEAM] * number + [AWAY] * (has - number) for number, has in zip(pushed, beads(rod))]


def pushed_of(sides):
    return tuple(deck.count(TO_THE_BEAM) for deck in sides)


def act_on_sides(sides, hand, step):
    """Push single beads over; tell whether it could be done."""
    stroke = hand[1 + 7 * step[0]:8 + 7 * step[0]]
    if not stroke:
        return False
    parts = ((stroke[:3], step[1]), (stroke[3:6], step[2]))
    for part, number in parts:
        deck, to, most = part
        if part == [0, 0, 0]:
            if number:
                return False
        elif number < 1 or number > most or sides[deck].count(3 - to) < number:
            return False
    for (deck, to, most), number in parts:
        for unused in range(number):
            sides[deck].remove(3 - to)
            sides[deck].append(to)
    return True


def triples(numbers):
    return [numbers[at:at + 3] for at in range(0, len(numbers), 3)]


def rods_in(make):
    return [make[at:at + 7] for at in range(0, len(make), 7)]


def with_row(book, row):
    """The book with this row in the place of its own for the same op, d, x."""
    return [row if row[:3] == other[:3] else other for other in book]


def without_row(book, head):
    return [row for row in book if row[:3] != head]


class Ends(Exception):
    """A sum ends with this number."""


def summed(op, order, h, v, make, hand, standing, book):
    """What sum_of has to answer where nothing is faulty, by rules that call one another and single beads."""
    rods = rods_in(make)
    sides = [sides_of(rod, standing[3 * number:3 * number + 3]) for number, rod in enumerate(rods)]
    told = {tuple(row[:3]): triples(row[3:]) for row in book}
    acts = []
    steps = itertools.count(1)

    def follow(number, d):
        digit = shown(rods[number], pushed_of(sides[number]))
        if digit is None:
            raise Ends(-9)
        for step in told.get((op, d, digit), []):
            if next(steps) > 65536:
                raise Ends(-8)
            if step == CARRY:
                if number + 1 == len(rods):
                    raise Ends(-6)
                follow(number + 1, 1)
            elif act_on_sides(sides[number], hand, step):
                acts.append([number] + step)
            else:
                raise Ends(-9)

    places = [math.prod(make[:7 * number:7]) for number in range(len(rods))]
    digits = [(number, v // places[number] % rod[0]) for number, rod in enumerate(rods)]
    try:
        for number, d in digits if order else digits[::-1]:
            if d:
                follow(number, d)
    except Ends as end:
        return [end.args[0]]
    then = [number for rod in sides for number in pushed_of(rod)]
    return [0, cost(hand, h, acts)] + then + list(itertools.chain(*acts))


def cost(hand, h, acts):
    """What a tour costs, the hand being at rod h first."""
    rods = [h] + [act[0] for act in acts]
    return sum(hand[7 + 7 * act[1]] for act in acts) + hand[0] * sum(abs(a - b) for a, b in zip(rods, rods[1:]))


def is_due(answer, op, h, v, make, hand, value):
    """Whether it's what sum_of has to answer by a right book: the sum in form, by acts that lead there."""
    after = value - v if op else value + v
    if not 0 <= after < span_of(make):
        return answer == [-6]
    then, numbers = answer[2:2 + len(make) // 7 * 3], answer[2 + len(make) // 7 * 3:]
    acts = [numbers[at:at + 4] for at in range(0, len(numbers), 4)]
    sides = [sides_of(rod, pushed) for rod, pushed in zip(rods_in(make), triples(standing_of(make, value)))]
    done = all([act_on_sides(sides[act[0]], hand, act[1:]) for act in acts])
    led_to = [number for rod in sides for number in pushed_of(rod)]
    return done and led_to == then == standing_of(make, after) and answer[:2] == [0, cost(hand, h, acts)]


def heads(rod):
    """Each op, d, x that a rod has, in order."""
    return [[op, d, x] for op in range(2) for d in range(1, rod[0]) for x in range(rod[0])]


def due(rod, head):
    """What the rod has to show, and how many carries there have to be."""
    op, d, x = head
    number = x - d if op else x + d
    return number % rod[0], 0 if 0 <= number < rod[0] else 1


def each_act(rod, hand, pushed):
    """Each act that can be done on a rod, in order: stroke, n, k; what is pushed then; the cost."""
    for number in range(len(hand) // 7):
        stroke = hand[1 + 7 * number:8 + 7 * number]
        for n in range(1, stroke[2] + 1):
            for k in range(1, stroke[5] + 1) if stroke[5] else [0]:
                sides = sides_of(rod, pushed)
                if act_on_sides(sides, hand, [number, n, k]):
                    yield (number, n, k), pushed_of(sides), stroke[6]


def first_tours(rod, hand, start):
    """The first of the cheapest tours from one way to push a rod to each other: by what is pushed, cost and acts."""
    found = {}
    ahead = [(0, (), start)]
    while ahead:
        spent, acts, pushed = heapq.heappop(ahead)
        if pushed not in found:
            found[pushed] = spent, acts
            for act, behind, more in each_act(rod, hand, pushed):
                if behind not in found:
                    heapq.heappush(ahead, (spent + more, acts + (act,), behind))
    return found


def best_of(rod, where, hand):
    """What best has to answer where nothing is refused, by tours that go on from their beginning."""
    tours = [first_tours(rod, hand, form(rod, x)) for x in range(rod[0])]
    answer = [0]
    for head in heads(rod):
        goal, carries = due(rod, head)
        if form(rod, goal) not in tours[head[2]]:
            return [-2] + head
        acts = [list(act) for act in tours[head[2]][form(rod, goal)][1]]
        steps = acts + [CARRY] * carries if where else [CARRY] * carries + acts
        if len(steps) > 10:
            return [-8] + head
        answer += head + [len(steps)] + sum(steps, [])
    return answer


def rows_of(answer):
    """A book's rows, of what best answers."""
    rows, at = [], 1
    while at < len(answer):
        steps = answer[at + 3]
        rows.append(answer[at:at + 3] + answer[at + 4:at + 4 + 3 * steps])
        at += 4 + 3 * steps
    return rows
