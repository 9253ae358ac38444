"""Tours on one rod by itself: the first of the cheapest, from one digit's form to another's."""

from abacusbooks.efforts import Efforts
from abacusbooks.grounds import Ground
from abacusbooks.hands import behind_act, cost_of, first_part, second_part, strokes_of
from abacusbooks.rods import digit_forms
from abacusbooks.rules import MOST_STEPS


class Tours:
    """The tours of a hand that stays on one rod; what was found out once is kept for the next question."""

    def __init__(self, rod, hand):
        self.rod = rod
        self.strokes = strokes_of(hand)
        self.forms = digit_forms(rod)
        self.ground = Ground(rod)
        self.efforts = {}
        self.told = {}

    def first_tour(self, x, goal):
        """Tell the first of the cheapest tours between two digits, stroke, n, k each; None if no acts lead there."""
        if goal not in self.efforts:
            self.efforts[goal] = Efforts(self.ground, self.strokes, self.ground.only(self.forms[goal]))
        if (x, goal) not in self.told:
            self.told[(x, goal)] = self.follow(self.forms[x], self.efforts[goal])
        return self.told[(x, goal)]

    def follow(self, start, efforts):
        """Tell the first of the tours from a standing that cost just its effort, None if no acts lead there.

        Of a tour that's too long for a rule no more is told than shows that it is.
        """
        left = efforts.effort_from(self.ground.only(start))
        if left is None:
            return None
        pushed = start
        acts = []
        while left > 0 and len(acts) <= MOST_STEPS:
            act = self.first_act(pushed, left, efforts)
            stroke = self.strokes[act[0]]
            acts.append(act)
            left -= cost_of(stroke)
            pushed = behind_act(self.rod, pushed, stroke, act[1], act[2])
        return acts

    def first_act(self, pushed, left, efforts):
        """Tell the first act that leads to a standing whose effort is less by just what the act costs."""
        for number, stroke in enumerate(self.strokes):
            aims = efforts.at(left - cost_of(stroke))
            if (self.ground.ahead_of_stroke(aims, stroke) & self.ground.only(pushed)) != 0:
                return (number,) + self.first_beads(pushed, stroke, aims)
        return None

    def first_beads(self, pushed, stroke, aims):
        """Tell the first n and k with which a stroke leads from a standing to one of the aims."""
        for n in range(1, first_part(stroke)[2] + 1):
            for k in second_numbers(stroke):
                behind = behind_act(self.rod, pushed, stroke, n, k)
                if behind is not None and (self.ground.only(behind) & aims) != 0:
                    return (n, k)
        return None


def second_numbers(stroke):
    """Tell each number of beads of its second deck that a stroke may push: 0 alone if it has none."""
    if second_part(stroke) == [0, 0, 0]:
        return [0]
    return list(range(1, second_part(stroke)[2] + 1))
