"""Shelves: what a house holds of a slot, through all moments that are kept."""

from websplit.houses import answer_by_piece
from websplit.moments import place_of
from websplit.pieces import change_between, changed, joined
from websplit.webs import Web

# (numbers of new knots, numbers of new ties, the change of the piece)
NO_GROWTH = ((), (), ((), (), (), ()))


class Shelf:
    """A slot's piece of the web of each kept moment, and all numbers that its knots and the ties out of them ever had.

    A new one has no moment; the first growth makes its first one.
    """

    def __init__(self):
        self.pieces = []
        self.knots_had = {}
        self.ties_had = {}

    def newest(self):
        """The piece of the last moment."""
        return self.pieces[-1] if self.pieces else Web()

    def grow(self, growth):
        """Goes on to the next moment."""
        knots, ties, change = growth
        self.knots_had.update({knot: True for knot in knots})
        self.ties_had.update({tie: True for tie in ties})
        self.pieces.append(changed(self.newest(), change))

    def shed(self, many):
        """Lets go of the first moments, so many."""
        self.pieces = self.pieces[many:]

    def growths(self):
        """The growths that make a new shelf into one like this."""
        changes = [change_between(one, other) for one, other in zip([Web()] + self.pieces, self.pieces)]
        first = (tuple(self.knots_had), tuple(self.ties_had), changes[0])
        return (first,) + tuple([((), (), change) for change in changes[1:]])


class MomentHouse:
    """A house of some slots, of all kept moments; it goes on answering as when it was told."""

    def __init__(self, shelves, first):
        self.own_slots = tuple(shelves)
        self.begin = first
        # Shelves grow and shed, but pieces never change: so these stay as they are.
        rows = [shelf.pieces for shelf in shelves.values()]
        self.moments = list(zip(*rows))
        self.known = {}

    def answer(self, message):
        """The answer to a message, by what the house holds of the message's moment alone."""
        at = place_of(message[1], self.begin, self.begin + len(self.moments) - 1)
        if at not in self.known:
            self.known[at] = joined(self.moments[at])
        return answer_by_piece(self.known[at], self.own_slots, message)
