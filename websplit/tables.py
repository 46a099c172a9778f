"""What a search has found so far."""


def picked(line, variables, wanted):
    """Of a line of knots, one for each of the variables, those for the wanted ones."""
    return tuple([line[variables.index(variable)] for variable in wanted])


class Table:
    """Lines of knots, one knot for each variable that is bound."""

    def __init__(self, bound, lines):
        self.bound = tuple(bound)
        self.lines = list(lines)

    def knots_at(self, variable):
        """The knots to which a variable is bound in any line, unlike, rising."""
        place = self.bound.index(variable)
        return sorted({line[place] for line in self.lines})

    def picks(self, wanted):
        """The unlike tuples of the lines' knots for the wanted variables."""
        return list({picked(line, self.bound, wanted): True for line in self.lines})

    def part(self, variables):
        """A table of those of the variables alone that are bound, its lines unlike."""
        left = [variable for variable in self.bound if variable in variables]
        return Table(left, self.picks(left))

    def joined(self, variables, choices):
        """A table of each line with each of the choices for these variables that fits to it."""
        shared = [variable for variable in variables if variable in self.bound]
        fresh = [variable for variable in variables if variable not in self.bound]
        fitting = {}
        for choice in choices:
            fitting.setdefault(picked(choice, variables, shared), []).append(picked(choice, variables, fresh))
        lines = [line + more for line in self.lines for more in fitting.get(picked(line, self.bound, shared), [])]
        return Table(self.bound + tuple(fresh), lines)

    def without(self, other):
        """A table of the lines whose knots for the other one's variables are no line of the other one."""
        gone = {line: True for line in other.lines}
        return Table(self.bound, [line for line in self.lines if picked(line, self.bound, other.bound) not in gone])
