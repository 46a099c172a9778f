"""The search: rows of a question, one behind the other, over all that is found so far.

What is searched is a Look at a web, or whatever has its methods. What is asked of it hangs on the rows and their
order alone, never on how much is found: so a search that found nothing goes on to its last row.
"""

from websplit.ordering import ordered
from websplit.questions import variables_in, variables_of
from websplit.tables import Table


def knot_choices(look, row, table):
    """The knots for the variable of a knot row."""
    if row[1] not in table.bound:
        return [(knot,) for knot in look.knots_like(row[2])]
    looked = look.looked(table.knots_at(row[1]))
    return [(knot,) for knot in looked if looked[knot][0] == row[2]]


def any_choices(look, row, table):
    """The knots for the variable of an any row."""
    knots = table.knots_at(row[1]) if row[1] in table.bound else look.knots_like(None)
    return [(knot,) for knot in knots]


def holds_choices(look, row, table):
    """The knots for the variable of a holds row."""
    looked = look.looked(table.knots_at(row[1]))
    return [(knot,) for knot in looked if is_held(looked[knot][1], row)]


def is_held(worths, row):
    """Whether there is such a worth among these as a holds row tells."""
    name, word, worth = row[2:]
    # Numbers and texts have no order between them.
    if name not in worths or isinstance(worths[name], str) != isinstance(worth, str):
        return False
    if word == "less":
        return worths[name] < worth
    return worths[name] > worth if word == "more" else worths[name] == worth


def unlike_choices(look, row, table):
    """The pairs of knots for the variables of an unlike row, of which a look tells nothing."""
    pairs = [(one, other) for one in table.knots_at(row[1]) for other in table.knots_at(row[2]) if one != other]
    return by_variables(row[1], row[2], pairs)


def tie_choices(look, row, table):
    """The pairs of knots for the variables of a tie row."""
    start, kind, end = row[1:]
    if start in table.bound:
        ties = look.ties_leaving(table.knots_at(start), kind)
    elif end in table.bound:
        ties = look.ties_coming(table.knots_at(end), kind)
    else:
        ties = look.ties_like(kind)
    return by_variables(start, end, [(tie[1], tie[2]) for tie in ties])


def way_choices(look, row, table):
    """The pairs of knots for the variables of a way row."""
    start, kind, end, most = row[1:]
    if start in table.bound:
        return by_variables(start, end, led(look, table.knots_at(start), kind, most, False))
    if end in table.bound:
        return by_variables(end, start, led(look, table.knots_at(end), kind, most, True))
    return by_variables(start, end, led(look, look.knots_like(None), kind, most, False))


def led(look, knots, kind, most, back):
    """(knot, knot) where one to most ties of a kind lead from one of these knots to the other one, or back."""
    steps = {}
    reached = knots
    for turn in range(most):
        ties = look.ties_coming(reached, kind) if back else look.ties_leaving(reached, kind)
        pairs = [(tie[2], tie[1]) if back else (tie[1], tie[2]) for tie in ties]
        steps.update(steps_by(pairs))
        reached = sorted({far for near, far in pairs})
    return [(knot, end) for knot in knots for end in ends_of(knot, steps, most)]


def steps_by(pairs):
    """The second knots of pairs, by the first ones."""
    steps = {}
    for near, far in pairs:
        steps.setdefault(near, []).append(far)
    return steps


def ends_of(knot, steps, most):
    """The knots to which one to most steps lead from a knot, rising."""
    reached = [knot]
    ends = []
    for turn in range(most):
        reached = sorted({far for near in reached for far in steps.get(near, [])})
        ends.extend(reached)
    return sorted(set(ends))


def by_variables(first, second, pairs):
    """Pairs of knots for two variables, turned so that the variables rise; single knots where both are the same."""
    if first == second:
        return [(one,) for one, other in pairs if one == other]
    return pairs if first < second else [(other, one) for one, other in pairs]


CHOICES = {
    "knot": knot_choices,
    "any": any_choices,
    "holds": holds_choices,
    "unlike": unlike_choices,
    "tie": tie_choices,
    "way": way_choices,
}


def behind_row(look, row, table):
    """The lines of a table by which a row holds, with knots for the variables that it binds."""
    if row[0] == "no":
        outside = table.part(variables_of(row))
        return table.without(search(look, ordered(row[1], outside.bound), outside, outside.bound))
    choose = CHOICES[row[0]]
    return table.joined(variables_of(row), choose(look, row, table))


def search(look, rows, table, wanted):
    """What rows, taken in this order, leave of a table, for the wanted variables."""
    for at, row in enumerate(rows):
        # What no later row asks for is left out: so what is found stays small.
        needed = list(wanted) + variables_in(rows[at + 1:])
        table = behind_row(look, row, table).part(needed)
    return table.part(wanted)


def answered(look, rows, shown):
    """The unlike tuples of knots for the shown variables, rising, where the rows are taken in this order."""
    return sorted(search(look, rows, Table((), [()]), shown).picks(shown))
