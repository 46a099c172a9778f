"""A front: it asks houses by mail, and knows no web."""

from websplit.bounds import SLOTS
from websplit.houses import House, slot_of
from websplit.ordering import ordered
from websplit.searching import answered
from websplit.things import written
from websplit.webs import Web


def message_bars(bars):
    """Bars as they stand in messages: unlike, rising by their writings."""
    unlike = list({bar: True for bar in bars})
    return tuple(sorted(unlike, key=written))


class Post:
    """The houses that have a slot, asked by a search as it asks a web, and the mail that goes to and fro."""

    def __init__(self, houses, placing, bars, moment):
        self.houses = houses
        self.placed = tuple(placing)
        self.barred = message_bars(bars)
        self.moment = moment
        self.letters = []

    def knots_like(self, kind):
        """The knots of a kind, of any where it is None, rising."""
        return sorted(self.send("knots", None, (kind,)))

    def looked(self, knots):
        """(kind, worths) of each of these knots."""
        return {knot: (kind, dict(worths)) for knot, kind, worths in self.send("look", knots, ())}

    def ties_like(self, kind):
        """All ties of a kind, (tie, from, to, weight)."""
        return self.send("ties", None, (kind,))

    def ties_leaving(self, knots, kind):
        """The ties of a kind out of these knots, so."""
        return self.send("outs", knots, (kind,))

    def ties_coming(self, knots, kind):
        """The ties of a kind into these knots, so."""
        return self.send("ins", knots, (kind,))

    def send(self, word, knots, rest):
        """All that the houses answer to a message, each asked of its own ones among the knots, where there are some."""
        told = []
        for number in sorted(set(self.placed)):
            own = () if knots is None else (self.own_of(number, knots),)
            message = (word, self.moment, self.barred) + own + rest
            reply = self.houses[number].answer(message)
            self.letters.append((number, message, reply))
            told.extend(reply)
        return told

    def own_of(self, number, knots):
        """Those of the knots whose slots stand at a house."""
        return tuple([knot for knot in knots if self.placed[slot_of(knot)] == number])


def by_mail(houses, placing, question, bars, *, moment=0):
    """The answer to a question that is asked of houses by mail, and the mail: (house, message, answer)."""
    shown, rows = question
    post = Post(houses, placing, bars, moment)
    return answered(post, ordered(rows, ()), shown), post.letters


def mail_size(question):
    """The number of messages that go to each house when a question is asked."""
    # It hangs on the question alone, so a house that holds nothing is asked as often as any.
    return len(by_mail({0: House(Web(), ())}, (0,) * SLOTS, question, ())[1])
