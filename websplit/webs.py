"""Webs of knots and ties."""

from websplit.errors import NoKnot, NoTie
from websplit.things import is_whole


def risen(rows):
    """A copy of a dict, its keys rising."""
    return {key: rows[key] for key in sorted(rows)}


def ties_by_knot(tie_rows, place):
    """The ties of each knot that stands at this place of their tuples."""
    found = {}
    for number in tie_rows:
        found.setdefault(tie_rows[number][place], []).append(number)
    return found


class Web:
    """A web; it never changes."""

    def __init__(self, knots=(), ties=()):
        self.knot_rows = risen({number: (kind, risen(worths)) for number, kind, worths in knots})
        self.tie_rows = risen({number: (kind, start, end, weight) for number, kind, start, end, weight in ties})
        self.ties_from = ties_by_knot(self.tie_rows, 1)
        self.ties_into = ties_by_knot(self.tie_rows, 2)

    def __eq__(self, other):
        return isinstance(other, Web) and self.knot_rows == other.knot_rows and self.tie_rows == other.tie_rows

    def __len__(self):
        return len(self.knot_rows)

    def knots(self):
        """The knots' numbers, rising."""
        return list(self.knot_rows)

    def ties(self):
        """The ties' numbers, rising."""
        return list(self.tie_rows)

    def kind(self, knot):
        """The kind of a knot."""
        return self.knot_row(knot)[0]

    def worths(self, knot):
        """The worths of a knot by their names, which rise."""
        return dict(self.knot_row(knot)[1])

    def outs(self, knot):
        """The ties out of a knot, rising."""
        self.knot_row(knot)
        return list(self.ties_from.get(knot, []))

    def ins(self, knot):
        """The ties into a knot, rising."""
        self.knot_row(knot)
        return list(self.ties_into.get(knot, []))

    def tie(self, number):
        """The tuple (kind, from, to, weight) of a tie."""
        # What is no whole number may have no place in a dict, or the place of a number that it equals.
        if not is_whole(number) or number not in self.tie_rows:
            raise NoTie(number)
        return self.tie_rows[number]

    def knot_row(self, knot):
        """The kind and the worths of a knot that is there."""
        if not is_whole(knot) or knot not in self.knot_rows:
            raise NoKnot(knot)
        return self.knot_rows[knot]
