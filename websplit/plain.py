"""The plain search of a web."""

from websplit.looking import Look
from websplit.ordering import ordered
from websplit.searching import answered


def answer(web, question):
    """The answer: the unlike tuples of knots for the shown variables, rising."""
    shown, rows = question
    # The order changes nothing of the answer; the told one is found soonest.
    return answered(Look(web), ordered(rows, ()), shown)
