"""A sum by a book: the digits of a number added or taken away, each by the rule for what its rod shows."""

from abacusbooks.hands import strokes_of
from abacusbooks.rods import digits_of
from abacusbooks.rules import CARRY, rules_of

FROM_THE_LEFT = 0
MOST_STEPS_A_SUM = 65536


class GoesWrong(Exception):
    """A rule's rod isn't in form when the rule begins, or an act can't be done."""


class RunsOver(Exception):
    """A carry comes at the leftmost rod."""


class TooLong(Exception):
    """A step more than a sum may have is to be done."""


class RuleUnderWay:
    """A rule that has begun on a rod: its steps, and how many of them have begun."""

    def __init__(self, number, steps):
        self.number = number
        self.steps = steps
        self.begun = 0


class Sum:
    """A sum under way on a frame: the rules that have begun and not yet ended, and the acts done so far."""

    def __init__(self, op, frame, hand, book):
        self.op = op
        self.frame = frame
        self.strokes = strokes_of(hand)
        self.rules = rules_of(book)
        # A rule waits in here while a carry of its own goes on; the one that began last stands last.
        self.under_way = []
        self.steps_begun = 0
        self.acts = []

    def do_digit(self, number, d):
        """Add d to a rod, or take it away, with all carries that come of it."""
        self.begin_rule(number, d)
        while len(self.under_way) > 0:
            self.go_on()

    def begin_rule(self, number, d):
        """Begin the book's rule for d on what a rod shows."""
        shown = self.frame.shown_on(number)
        if shown is None:
            raise GoesWrong()
        self.under_way.append(RuleUnderWay(number, self.rules.get((self.op, d, shown), [])))

    def go_on(self):
        """Do the next step of the rule that began last, or end that rule."""
        rule = self.under_way[-1]
        if rule.begun == len(rule.steps):
            self.under_way.pop()
            return
        if self.steps_begun == MOST_STEPS_A_SUM:
            raise TooLong()
        step = rule.steps[rule.begun]
        rule.begun += 1
        self.steps_begun += 1
        if step == CARRY:
            self.carry_from(rule.number)
        else:
            self.act_on(rule.number, step)

    def carry_from(self, number):
        """Begin the rule for 1 on the next rod to the left."""
        if number + 1 == len(self.frame.rods):
            raise RunsOver()
        self.begin_rule(number + 1, 1)

    def act_on(self, number, step):
        """Do an act on a rod, and keep it in mind."""
        stroke = step[0]
        if stroke >= len(self.strokes) or not self.frame.try_act(number, self.strokes[stroke], step[1], step[2]):
            raise GoesWrong()
        self.acts.append([number, stroke, step[1], step[2]])


def acts_of_sum(op, order, v, make, hand, book, frame):
    """Do a sum on a frame, and tell its acts: rod, stroke, n and k each."""
    going = Sum(op, frame, hand, book)
    for number, d in digits_in_order(order, v, make):
        going.do_digit(number, d)
    return going.acts


def digits_in_order(order, v, make):
    """Tell the digits of v that aren't 0, each as its rod and itself, as they are taken."""
    from_the_right = [(number, d) for number, d in enumerate(digits_of(v, make)) if d > 0]
    if order == FROM_THE_LEFT:
        return list(reversed(from_the_right))
    return from_the_right
