"""Which rows of a question hold by knots that are told for its variables."""

from websplit.looking import Look
from websplit.questions import outer_variables, variables_of
from websplit.searching import search
from websplit.tables import Table


class Judge:
    """A web and a question; what is told for variables is a dict from outer variables to knots of the web."""

    def __init__(self, web, question):
        self.judged = web
        self.shown = question[0]
        self.asked_rows = question[1]
        self.outer = outer_variables(question[1])
        self.known = {}

    def variables(self, at):
        """The outer variables of the row at a place."""
        return [variable for variable in variables_of(self.asked_rows[at]) if variable in self.outer]

    def holds(self, at, told):
        """Whether the row at a place holds where all of its outer variables are told."""
        variables = self.variables(at)
        knots = tuple([told[variable] for variable in variables])
        if (at, knots) not in self.known:
            left = search(Look(self.judged), (self.asked_rows[at],), Table(variables, [knots]), ())
            self.known[(at, knots)] = bool(left.lines)
        return self.known[(at, knots)]

    def shown_knots(self, told):
        """The tuple of the knots for the shown variables."""
        return tuple([told[variable] for variable in self.shown])
