"""Showing papers: why a tuple is one of the answer."""

from websplit.errors import NoTie, NoTuple
from websplit.judging import Judge
from websplit.looking import Look, ties_out
from websplit.ordering import ordered
from websplit.questions import outer_variables
from websplit.searching import search
from websplit.tables import Table
from websplit.things import is_whole


def showing(web, question, asked):
    """A paper that shows a tuple of the answer; NoTuple of anything else."""
    rows = question[1]
    told = told_by(web, question[0], asked)
    if told is None or not search_with(web, rows, told, ()).lines:
        raise NoTuple(asked)
    outer = outer_variables(rows)
    for variable in outer:
        told[variable] = min(search_with(web, rows, told, (variable,)).lines)[0]
    return tuple([(variable, told[variable]) for variable in outer]), tuple([sign_of(web, row, told) for row in rows])


def told_by(web, shown, asked):
    """The knots that a tuple tells for the shown variables, or None where it can tell none; of anything."""
    if not isinstance(asked, tuple) or len(asked) != len(shown) or not all([is_knot(web, knot) for knot in asked]):
        return None
    told = dict(zip(shown, asked))
    return told if asked == tuple([told[variable] for variable in shown]) else None


def is_knot(web, thing):
    """Whether it is the number of a knot of the web, of anything."""
    return is_whole(thing) and thing in web.knots()


def search_with(web, rows, told, wanted):
    """What is found for the wanted variables where knots are told for some."""
    table = Table(list(told), [tuple(told.values())])
    return search(Look(web), ordered(rows, table.bound), table, wanted)


def sign_of(web, row, told):
    """What shows a row that holds by the told knots."""
    if row[0] == "tie":
        return ties_between(web, told[row[1]], row[2], told[row[3]])[0]
    if row[0] == "way":
        return way_between(web, told[row[1]], row[2], told[row[3]], row[4])
    return None


def ties_between(web, start, kind, end):
    """The ties of a kind from a knot to a knot, rising."""
    return [tie[0] for tie in ties_out(web, [start], kind) if tie[2] == end]


def way_between(web, start, kind, end, most):
    """A shortest way of one to most ties of a kind from a knot to a knot."""
    ways = {start: ()}
    for turn in range(most):
        further = {}
        for knot in ways:
            for tie in ties_out(web, [knot], kind):
                further[tie[2]] = ways[knot] + (tie[0],)
        if end in further:
            return further[end]
        ways = further
    return None


def shows(web, question, asked, paper):
    """Whether a paper shows that a tuple is one of the answer; of anything."""
    if not isinstance(paper, tuple) or len(paper) != 2:
        return False
    pairs, signs = paper
    rows = question[1]
    if not is_telling(web, pairs, outer_variables(rows)) or not isinstance(signs, tuple) or len(signs) != len(rows):
        return False
    told = dict(pairs)
    judge = Judge(web, question)
    if told_by(web, question[0], asked) is None or asked != judge.shown_knots(told):
        return False
    return all([is_shown_by(judge, at, told, sign) for at, sign in enumerate(signs)])


def is_telling(web, thing, variables):
    """Whether it is a tuple of (variable, knot), for just these variables in this order; of anything."""
    if not isinstance(thing, tuple) or not all([isinstance(pair, tuple) and len(pair) == 2 for pair in thing]):
        return False
    return [pair[0] for pair in thing] == variables and all([is_knot(web, pair[1]) for pair in thing])


def is_shown_by(judge, at, told, sign):
    """Whether a sign, anything, shows the row at a place by the told knots."""
    row = judge.asked_rows[at]
    if row[0] == "tie":
        return is_chain(judge.judged, (sign,), row[2], told[row[1]], told[row[3]])
    if row[0] == "way":
        if not isinstance(sign, tuple) or not 1 <= len(sign) <= row[4]:
            return False
        return is_chain(judge.judged, sign, row[2], told[row[1]], told[row[3]])
    return sign is None and judge.holds(at, told)


def is_chain(web, things, kind, start, end):
    """Whether they are ties of a kind, one behind the other, from a knot to a knot; of anything."""
    reached = start
    for thing in things:
        reached = end_of(web, thing, kind, reached)
    return reached == end


def end_of(web, thing, kind, start):
    """The knot to which a tie of a kind leads from a knot, or None where it is no such tie; of anything."""
    try:
        tie = web.tie(thing)
    except NoTie:
        return None
    return tie[2] if tie[:2] == (kind, start) else None
