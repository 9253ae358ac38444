"""All standings of one rod, and from which of them a stroke leads to others."""

from abacusbooks.hands import TO_THE_BEAM, first_part, second_part
from abacusbooks.rods import DECKS, MOST_BEADS, beads_of


class Ground:
    """Each standing of a rod has a place; many standings are one whole number, whose bits are 1 at their places.

    So what a stroke does is looked at for all of them at once: three decks of 15 beads have 4096 standings.
    """

    def __init__(self, rod):
        self.strides = strides_of(rod)
        self.room = [room_on_deck(rod, deck, self.strides) for deck in range(DECKS)]

    def only(self, pushed):
        """Tell one standing by itself."""
        return 1 << sum([pushed[deck] * self.strides[deck] for deck in range(DECKS)])

    def ahead_of_stroke(self, standings, stroke):
        """Tell all standings from which an act with the stroke leads to one of these."""
        between = self.ahead_of_part(standings, first_part(stroke))
        if second_part(stroke) == [0, 0, 0]:
            return between
        # The second deck is never the first one, so it's the same whichever is pushed first.
        return self.ahead_of_part(between, second_part(stroke))

    def ahead_of_part(self, standings, part):
        """Tell all standings from which a move of one deck, of 1 to its most beads, leads to one of these."""
        deck = part[0]
        to_the_beam = part[1] == TO_THE_BEAM
        reached = self.ahead_of_beads(standings, deck, to_the_beam, 1)
        looked_at = 1
        # What 1 to m beads lead to, moved by up to m beads more, is what 1 to 2 m beads lead to.
        while looked_at < part[2]:
            more = min(looked_at, part[2] - looked_at)
            reached |= self.ahead_of_beads(reached, deck, to_the_beam, more)
            looked_at += more
        return reached

    def ahead_of_beads(self, standings, deck, to_the_beam, number):
        """Tell all standings from which just so many beads of a deck, moved over, lead to one of these."""
        apart = number * self.strides[deck]
        if to_the_beam:
            return (standings >> apart) & self.room[deck][number]
        return (standings & self.room[deck][number]) << apart


def strides_of(rod):
    """Tell of each deck how far apart two places are whose standings differ by one bead; and how many there are."""
    strides = [1]
    for deck in range(DECKS):
        strides.append(strides[deck] * (beads_of(rod, deck) + 1))
    return strides


def room_on_deck(rod, deck, strides):
    """Tell, by a number of beads, all standings that have so many of a deck away from the beam."""
    firsts = 0
    for place in range(0, strides[DECKS], strides[deck + 1]):
        firsts |= 1 << place
    room = []
    for number in range(MOST_BEADS + 1):
        fewer = max(0, beads_of(rod, deck) + 1 - number)
        # Places go on from one bead to the next of this deck, and begin anew at each of the firsts.
        room.append(firsts * ((1 << (fewer * strides[deck])) - 1))
    return room
