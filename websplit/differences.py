"""The difference of two webs."""


def difference(one, other):
    """The knots, the (knot, name) of worths, and the ties in which two webs are otherwise: three lists, rising."""
    both = [knot for knot in one.knots() if knot in other.knots()]
    return (
        unlike_keys(kinds_of(one), kinds_of(other)),
        unlike_keys(worths_of(one, both), worths_of(other, both)),
        unlike_keys(ties_of(one), ties_of(other)),
    )


def unlike_keys(one, other):
    """The keys at which two dicts are otherwise, rising."""
    # No kind, worth or tie is None, so None stands for what isn't there.
    return sorted([key for key in {**one, **other} if one.get(key) != other.get(key)])


def kinds_of(web):
    """The kinds of a web's knots, by their numbers."""
    return {knot: web.kind(knot) for knot in web.knots()}


def worths_of(web, knots):
    """The worths of these knots, by (knot, name)."""
    found = {}
    for knot in knots:
        worths = web.worths(knot)
        for name in worths:
            found[(knot, name)] = worths[name]
    return found


def ties_of(web):
    """The tuples of a web's ties, by their numbers."""
    return {tie: web.tie(tie) for tie in web.ties()}
