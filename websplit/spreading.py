"""Least weights and parts: what is come to along ties."""

from websplit.errors import NoTie
from websplit.things import is_whole


def least(web, knot, kinds):
    """(least sum of weights, last tie) of each knot to which ties of these kinds lead out of a knot."""
    # Refuses what is no knot.
    web.kind(knot)
    reached = {knot: (0, None)}
    settled = {}
    while len(settled) < len(reached):
        weight, near = min([(reached[far][0], far) for far in reached if far not in settled])
        settled[near] = reached[near]
        for tie in web.outs(near):
            kind, start, end, more = web.tie(tie)
            if kind in kinds and (end not in reached or weight + more < reached[end][0]):
                reached[end] = (weight + more, tie)
    return {far: settled[far] for far in sorted(settled)}


def is_least(web, knot, kinds, told):
    """Whether a dict, whatever is in it, tells least weights."""
    reached = least(web, knot, kinds)
    # Truths are equal to numbers, but no knots.
    if not all([is_whole(far) for far in told]) or sorted(told) != list(reached):
        return False
    return all([is_reached_so(web, kinds, reached, far, told[far]) for far in reached])


def is_reached_so(web, kinds, reached, far, thing):
    """Whether it is a tuple (least weight, a last tie by which it is come to by so much), of anything."""
    if not isinstance(thing, tuple) or len(thing) != 2 or not is_whole(thing[0]) or thing[0] != reached[far][0]:
        return False
    if reached[far][1] is None:
        return thing[1] is None
    return is_last_tie(web, kinds, reached, far, thing[1])


def is_last_tie(web, kinds, reached, far, thing):
    """Whether it is a tie of these kinds by which a knot is come to by its least weight, of anything."""
    try:
        kind, start, end, weight = web.tie(thing)
    except NoTie:
        return False
    return kind in kinds and end == far and start in reached and reached[start][0] + weight == reached[far][0]


def parts(web, kinds):
    """The least of the knots with which each knot hangs together by ties of these kinds, whichever way they go."""
    found = {}
    for knot in web.knots():
        # Knots rise, so the first one of its part is the least.
        if knot not in found:
            found.update({far: knot for far in hanging(web, knot, kinds)})
    return {knot: found[knot] for knot in web.knots()}


def hanging(web, knot, kinds):
    """The knots with which a knot hangs together, itself among them."""
    known = {knot: True}
    fresh = [knot]
    while fresh:
        near = fresh.pop()
        for far in neighbours(web, near, kinds):
            if far not in known:
                known[far] = True
                fresh.append(far)
    return list(known)


def neighbours(web, knot, kinds):
    """The knots at the far ends of a knot's ties of these kinds."""
    ties = [web.tie(tie) for tie in web.outs(knot) + web.ins(knot)]
    return [far for kind, start, end, weight in ties if kind in kinds for far in (start, end)]
