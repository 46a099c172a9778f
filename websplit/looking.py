"""Which knots and ties of a web are of a kind, and what a search asks of a web."""


def knots_of_kind(web, kind):
    """The knots of a kind, of any where it is None, rising."""
    return [knot for knot in web.knots() if kind is None or web.kind(knot) == kind]


def ties_of_kind(web, ties, kind):
    """Those of these ties that are of a kind, (tie, from, to, weight), unlike, rising."""
    return [(tie,) + web.tie(tie)[1:] for tie in sorted(set(ties)) if web.tie(tie)[0] == kind]


def ties_out(web, knots, kind):
    """The ties of a kind out of these knots, so."""
    return ties_of_kind(web, [tie for knot in knots for tie in web.outs(knot)], kind)


def ties_in(web, knots, kind):
    """The ties of a kind into these knots, so."""
    return ties_of_kind(web, [tie for knot in knots for tie in web.ins(knot)], kind)


class Look:
    """A web, as a search asks it."""

    def __init__(self, web):
        self.searched = web

    def knots_like(self, kind):
        """The knots of a kind, of any where it is None, rising."""
        return knots_of_kind(self.searched, kind)

    def looked(self, knots):
        """(kind, worths) of each of these knots."""
        return {knot: (self.searched.kind(knot), self.searched.worths(knot)) for knot in knots}

    def ties_like(self, kind):
        """All ties of a kind, (tie, from, to, weight)."""
        return ties_of_kind(self.searched, self.searched.ties(), kind)

    def ties_leaving(self, knots, kind):
        """The ties of a kind out of these knots, so."""
        return ties_out(self.searched, knots, kind)

    def ties_coming(self, knots, kind):
        """The ties of a kind into these knots, so."""
        return ties_in(self.searched, knots, kind)
