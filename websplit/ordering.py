"""The order in which the rows of a question are taken."""

from websplit.questions import binds, outer_variables, variables_of


def order_of(rows, bound):
    """The places of rows in the order of the told plan, where these variables are bound already."""
    outer = outer_variables(rows)
    known = list(bound)
    left = list(range(len(rows)))
    order = []
    while left:
        at = min([(rank(rows[place], known, outer), place) for place in left])[1]
        left.remove(at)
        order.append(at)
        if binds(rows[at]):
            known.extend(variables_of(rows[at]))
    return tuple(order)


def ordered(rows, bound):
    """Rows in the order of the told plan, where these variables are bound already."""
    return [rows[at] for at in order_of(rows, bound)]


def rank(row, bound, outer):
    """How early a row is taken: the least first."""
    # A no row counts by the variables that stand outside of it.
    variables = [variable for variable in variables_of(row) if row[0] != "no" or variable in outer]
    if all([variable in bound for variable in variables]):
        return 0
    if row[0] in ("tie", "way") and any([variable in bound for variable in variables]):
        return 1
    if row[0] == "knot":
        return 2
    # What binds nothing can't be taken ahead of what binds its variables.
    return 3 if binds(row) else 4
