"""Barring papers: trees that nothing but a list of tuples is the answer."""

from websplit.judging import Judge
from websplit.looking import ties_in, ties_out
from websplit.things import is_between, is_whole


def barring(web, question):
    """A tree that nothing but the answer is the answer."""
    return tree_of(Judge(web, question), {}, [])


def tree_of(judge, picks, held):
    """The tree behind picked knots by which the rows at some places hold."""
    ready = [at for at in range(len(judge.asked_rows)) if at not in held and is_picked(judge, at, picks)]
    for at in ready:
        if not judge.holds(at, picks):
            return ("fails", at)
    left = [variable for variable in judge.outer if variable not in picks]
    if not left:
        return ("told",)
    leads = led_places(judge, picks)
    if not leads:
        return ("pick", left[0], branches_of(judge, picks, left[0], judge.judged.knots(), held + ready))
    # By a tie there are fewer knots than in the whole web.
    variable, at = leads[0]
    return ("by", variable, at, branches_of(judge, picks, variable, knots_by(judge, at, variable, picks), held + ready))


def branches_of(judge, picks, variable, knots, held):
    """(knot, tree) for each of the knots that may be picked for a variable."""
    return tuple([(knot, tree_of(judge, {**picks, variable: knot}, held)) for knot in knots])


def is_picked(judge, at, picks):
    """Whether all outer variables of the row at a place are picked."""
    return all([variable in picks for variable in judge.variables(at)])


def led_places(judge, picks):
    """(variable, place) for each tie row that leads from a picked variable to one that isn't."""
    found = []
    for at, row in enumerate(judge.asked_rows):
        free = [variable for variable in judge.variables(at) if variable not in picks]
        if row[0] == "tie" and row[1] != row[3] and len(free) == 1:
            found.append((free[0], at))
    return found


def knots_by(judge, at, variable, picks):
    """The knots for a variable to which, or from which, ties of the tie row at a place lead, rising."""
    start, kind, end = judge.asked_rows[at][1:]
    if variable == end:
        return sorted({tie[2] for tie in ties_out(judge.judged, [picks[start]], kind)})
    return sorted({tie[1] for tie in ties_in(judge.judged, [picks[end]], kind)})


def bars_more(web, question, told, paper):
    """Whether a paper bars all tuples but just the told ones; of anything."""
    found = {}
    if not is_tree(Judge(web, question), {}, paper, found) or told != sorted(found):
        return False
    # Truths are equal to numbers, but no knots.
    return all([is_whole(knot) for line in told for knot in line])


def is_tree(judge, picks, thing, found):
    """Whether it is a tree as told behind the picked knots, of anything; what it tells comes to what is found."""
    if not isinstance(thing, tuple) or not thing:
        return False
    if thing == ("told",):
        return is_telling(judge, picks, found)
    if thing[0] == "fails" and len(thing) == 2:
        return is_failing(judge, picks, thing[1])
    if thing[0] == "pick" and len(thing) == 3:
        is_free = thing[1] in judge.outer and thing[1] not in picks
        return is_free and are_branches(judge, picks, thing[1], judge.judged.knots(), thing[2], found)
    if thing[0] == "by" and len(thing) == 4:
        variable, at, branches = thing[1:]
        if not is_whole(at) or (variable, at) not in led_places(judge, picks):
            return False
        return are_branches(judge, picks, variable, knots_by(judge, at, variable, picks), branches, found)
    return False


def is_telling(judge, picks, found):
    """Whether all outer variables are picked and every row holds; the shown knots come to what is found."""
    if not all([variable in picks for variable in judge.outer]):
        return False
    if not all([judge.holds(at, picks) for at in range(len(judge.asked_rows))]):
        return False
    found[judge.shown_knots(picks)] = True
    return True


def is_failing(judge, picks, at):
    """Whether it is the place of a row that is picked and doesn't hold, of anything."""
    if not is_between(at, 0, len(judge.asked_rows) - 1) or not is_picked(judge, at, picks):
        return False
    return not judge.holds(at, picks)


def are_branches(judge, picks, variable, knots, thing, found):
    """Whether it is a tuple of (knot, tree) for just these knots in their order, of anything."""
    if not isinstance(thing, tuple) or not all([is_branch(part) for part in thing]):
        return False
    if [branch[0] for branch in thing] != knots:
        return False
    for knot, tree in thing:
        if not is_tree(judge, {**picks, variable: knot}, tree, found):
            return False
    return True


def is_branch(thing):
    """Whether it is a tuple (whole number, anything), of anything."""
    return isinstance(thing, tuple) and len(thing) == 2 and is_whole(thing[0])
