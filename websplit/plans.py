"""Plans: the orders in which a question may be searched."""

from websplit.errors import NoPlan
from websplit.looking import Look
from websplit.ordering import order_of
from websplit.questions import binds, outer_variables, variables_of
from websplit.searching import answered
from websplit.things import is_whole


def plan(question):
    """The told plan: the places of the outer rows, in an order."""
    return order_of(question[1], ())


def answer_by(web, question, order):
    """The answer, searched by an order of the rows; NoPlan of any other order, of anything."""
    shown, rows = question
    if not is_order(rows, order):
        raise NoPlan()
    return answered(Look(web), [rows[at] for at in order], shown)


def is_order(rows, thing):
    """Whether it is an order in which these rows may be searched, of anything."""
    if not isinstance(thing, (list, tuple)) or not all([is_whole(place) for place in thing]):
        return False
    if sorted(thing) != list(range(len(rows))):
        return False
    outer = outer_variables(rows)
    bound = []
    for place in thing:
        variables = variables_of(rows[place])
        if binds(rows[place]):
            bound.extend(variables)
        elif not all([variable in bound for variable in variables if variable in outer]):
            return False
    return True
