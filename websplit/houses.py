"""Houses, each of which has the knots of some slots, and answers messages."""

from websplit.bounds import SLOTS
from websplit.looking import knots_of_kind, ties_in, ties_out
from websplit.rights import seen
from websplit.webs import Web


def slot_of(knot):
    """The slot of a knot."""
    return knot % SLOTS


def own_knots(web, slots):
    """The knots of a web that are of these slots, rising."""
    return [knot for knot in web.knots() if slot_of(knot) in slots]


def piece_of(web, slots):
    """What a house of these slots holds of a web: their knots, the ties out of and into them, and the far knots."""
    own = own_knots(web, slots)
    numbers = sorted({tie for knot in own for tie in web.outs(knot) + web.ins(knot)})
    ties = [(tie,) + web.tie(tie) for tie in numbers]
    far = [knot for tie in ties for knot in tie[2:4]]
    return Web([(knot, web.kind(knot), web.worths(knot)) for knot in sorted(set(own + far))], ties)


def tell_knots(web, own, asked):
    """The own knots of a kind."""
    return [knot for knot in knots_of_kind(web, asked[0]) if knot in own]


def tell_look(web, own, asked):
    """(knot, kind, worths) of the asked knots."""
    return [(knot, web.kind(knot), worth_pairs(web.worths(knot))) for knot in asked[0] if knot in own]


def worth_pairs(worths):
    """(name, worth) of all worths, rising."""
    return tuple([(name, worths[name]) for name in sorted(worths)])


def tell_ties(web, own, asked):
    """All ties of a kind out of the own knots."""
    return ties_out(web, own, asked[0])


def tell_outs(web, own, asked):
    """The ties of a kind out of the asked knots."""
    return ties_out(web, [knot for knot in asked[0] if knot in own], asked[1])


def tell_ins(web, own, asked):
    """The ties of a kind into the asked knots."""
    return ties_in(web, [knot for knot in asked[0] if knot in own], asked[1])


TELLS = {
    "knots": tell_knots,
    "look": tell_look,
    "ties": tell_ties,
    "outs": tell_outs,
    "ins": tell_ins,
}


def answer_by_piece(piece, slots, message):
    """What a house of these slots answers to a message by what it holds of the web of the message's moment."""
    left = seen(piece, message[2])
    tell = TELLS[message[0]]
    return tuple(tell(left, own_knots(left, slots), message[3:]))


class House:
    """A house of some slots, of one moment's web."""

    def __init__(self, web, slots):
        self.own_slots = tuple(slots)
        self.piece = piece_of(web, self.own_slots)

    def answer(self, message):
        """The answer to a message, by what the house holds alone."""
        return answer_by_piece(self.piece, self.own_slots, message)
