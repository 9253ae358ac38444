"""Efforts on one rod by itself: the least that acts cost which lead from a standing to a goal."""

from abacusbooks.hands import cost_of


class Efforts:
    """From which standings of a rod the effort to one goal is how much, looked at no further than was asked for."""

    def __init__(self, ground, strokes, goal):
        self.ground = ground
        self.strokes = strokes
        # What is found lies one act ahead of what is settled; it may be settled at less before its effort comes.
        self.found = {0: goal}
        self.settled = 0
        self.settled_at = {}
        self.effort = 0

    def effort_from(self, standing):
        """Tell the effort from a standing, None if no acts lead from it to the goal."""
        while (self.settled & standing) == 0 and len(self.found) > 0:
            self.look_further()
        for effort, standings in self.settled_at.items():
            if (standings & standing) != 0:
                return effort
        return None

    def look_further(self):
        """Settle all standings that have the next effort."""
        fresh = self.found.pop(self.effort, 0) & ~self.settled
        if fresh != 0:
            self.settled |= fresh
            self.settled_at[self.effort] = fresh
            self.find_ahead_of(fresh)
        self.effort += 1

    def find_ahead_of(self, standings):
        """Find all standings from which one act leads to one of these."""
        for stroke in self.strokes:
            ahead = self.ground.ahead_of_stroke(standings, stroke)
            if ahead != 0:
                cost = self.effort + cost_of(stroke)
                self.found[cost] = self.found.get(cost, 0) | ahead

    def at(self, effort):
        """Tell all standings that have just this effort, as far as was looked."""
        return self.settled_at.get(effort, 0)
