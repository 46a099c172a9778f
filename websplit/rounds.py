"""Runs by rounds: a def is called for knots, and what it sends along ties comes to others in the next round."""

from websplit.errors import NoTie, TooLong
from websplit.houses import slot_of
from websplit.things import is_whole


def ties_at(web, knot):
    """(tie, kind, far, weight, out) of each tie of a knot, rising; one from the knot to itself stands once."""
    rows = []
    for tie in sorted(set(web.outs(knot) + web.ins(knot))):
        kind, start, end, weight = web.tie(tie)
        rows.append((tie, kind, end if start == knot else start, weight, start == knot))
    return tuple(rows)


def far_end(ties, asked):
    """The knot to which one of these ties leads; NoTie of anything else."""
    for row in ties:
        # Truths are equal to numbers, but no ties.
        if is_whole(asked) and row[0] == asked:
            return row[2]
    raise NoTie(asked)


def by_rounds(web, placing, step, most):
    """What all knots hold behind a run of at most so many rounds, and how many things went from house to house."""
    ties = {knot: ties_at(web, knot) for knot in web.knots()}
    held = {knot: None for knot in web.knots()}
    coming = {knot: [] for knot in web.knots()}
    crossings = 0
    for turn in range(most):
        sent = one_round(step, held, coming, ties)
        crossings += len([far for near, far, tie, thing in sent if placing[slot_of(near)] != placing[slot_of(far)]])
        coming = {}
        for near, far, tie, thing in sent:
            coming.setdefault(far, []).append((tie, thing))
        if not coming:
            return held, crossings
    raise TooLong(most)


def one_round(step, held, coming, ties):
    """Calls the def for each knot to which something comes; tells what is sent, (from, to, tie, thing)."""
    sent = []
    for knot in sorted(coming):
        got = tuple(sorted(coming[knot], key=lambda pair: pair[0]))
        held[knot], sends = step(knot, held[knot], got, ties[knot])
        for tie, thing in sends:
            sent.append((knot, far_end(ties[knot], tie), tie, thing))
    return sent
