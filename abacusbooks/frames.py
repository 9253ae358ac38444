"""Frames: what stands on a make, while acts are done on it."""

from abacusbooks.hands import behind_act
from abacusbooks.rods import DECKS, digits_by_form, rods_of


class Frame:
    """A make's rods, and how many beads of each deck are pushed on each."""

    def __init__(self, make, standing):
        self.rods = rods_of(make)
        self.pushed = [standing[start:start + DECKS] for start in range(0, len(standing), DECKS)]
        self.digits = [digits_by_form(rod) for rod in self.rods]

    def shown_on(self, number):
        """Tell the digit that a rod shows in form, None if the rod isn't in form."""
        return self.digits[number].get(tuple(self.pushed[number]))

    def is_in_form(self):
        """Tell whether each rod is in form."""
        return all([self.shown_on(number) is not None for number in range(len(self.rods))])

    def try_act(self, number, stroke, n, k):
        """Do an act on a rod if it can be done, and tell whether it could."""
        behind = behind_act(self.rods[number], self.pushed[number], stroke, n, k)
        if behind is None:
            return False
        self.pushed[number] = behind
        return True

    def as_standing(self):
        """Tell what stands now, three numbers a rod."""
        return in_one_list(self.pushed)


def in_one_list(lists):
    """Tell the members of several lists, one list behind another."""
    members = []
    for one in lists:
        members.extend(one)
    return members
