"""Questions: what they are, which variables stand in them, and what they name."""

from websplit.bounds import MOST_NO_ROWS, MOST_ROWS, MOST_SHOWN, MOST_VARIABLES, MOST_WAY
from websplit.errors import NoQuestion
from websplit.things import is_between, is_name, is_worth


def are_names(things):
    """Whether all of them are names."""
    return all([is_name(thing) for thing in things])


def is_knot_row(row):
    """Whether it is as told of knot."""
    return len(row) == 3 and are_names(row[1:])


def is_any_row(row):
    """Whether it is as told of any."""
    return len(row) == 2 and is_name(row[1])


def is_holds_row(row):
    """Whether it is as told of holds."""
    return len(row) == 5 and are_names(row[1:3]) and row[3] in ("same", "less", "more") and is_worth(row[4])


def is_tie_row(row):
    """Whether it is as told of tie."""
    return len(row) == 4 and are_names(row[1:])


def is_way_row(row):
    """Whether it is as told of way."""
    return len(row) == 5 and are_names(row[1:4]) and is_between(row[4], 1, MOST_WAY)


def is_unlike_row(row):
    """Whether it is as told of unlike."""
    return len(row) == 3 and are_names(row[1:])


FORMS = {
    "knot": is_knot_row,
    "any": is_any_row,
    "holds": is_holds_row,
    "tie": is_tie_row,
    "way": is_way_row,
    "unlike": is_unlike_row,
}


def is_row(thing):
    """Whether it is a row by itself, of anything."""
    return is_plain_row(thing) or is_no_row(thing)


def is_plain_row(thing):
    """Whether it is a row other than no, of anything."""
    # What is no text may have no place in a dict.
    if not isinstance(thing, tuple) or not thing or not isinstance(thing[0], str) or thing[0] not in FORMS:
        return False
    fits = FORMS[thing[0]]
    return fits(thing)


def is_no_row(thing):
    """Whether it is a no row, of anything."""
    if not isinstance(thing, tuple) or len(thing) != 2 or thing[0] != "no" or not isinstance(thing[1], tuple):
        return False
    return 1 <= len(thing[1]) <= MOST_NO_ROWS and all([is_plain_row(row) for row in thing[1]])


def binds(row):
    """Whether a row binds its variables."""
    return row[0] in ("knot", "any", "tie", "way")


def variables_of(row):
    """The variables that stand in a row, unlike, rising."""
    if row[0] == "no":
        return sorted({variable for inner in row[1] for variable in variables_of(inner)})
    if row[0] in ("tie", "way"):
        return sorted({row[1], row[3]})
    if row[0] == "unlike":
        return sorted({row[1], row[2]})
    return [row[1]]


def variables_in(rows):
    """The variables that stand in any of these rows, unlike, rising."""
    return sorted({variable for row in rows for variable in variables_of(row)})


def outer_variables(rows):
    """The variables that stand in these rows, those that stand in no rows alone left out."""
    return variables_in([row for row in rows if row[0] != "no"])


def need_question(thing):
    """Refuses what is no question, of anything."""
    if not isinstance(thing, tuple) or len(thing) != 2 or not isinstance(thing[1], tuple):
        raise NoQuestion(None)
    shown, rows = thing
    for at, row in enumerate(rows):
        if not is_row(row):
            raise NoQuestion(at)
    if not 1 <= len(rows) <= MOST_ROWS or len(variables_in(rows)) > MOST_VARIABLES:
        raise NoQuestion(None)
    if not is_shown(shown) or not is_bound(shown, rows):
        raise NoQuestion(None)


def is_shown(thing):
    """Whether it is a tuple of variables to be shown, of anything."""
    return isinstance(thing, tuple) and len(thing) <= MOST_SHOWN and are_names(thing)


def is_bound(shown, rows):
    """Whether each variable that must stand in other rows does."""
    bound = variables_in([row for row in rows if binds(row)])
    hidden = [row for row in rows if row[0] == "no"]
    if not all([variable in bound for variable in list(shown) + outer_variables(rows)]):
        return False
    for row in hidden:
        inside = variables_in([inner for inner in row[1] if binds(inner)])
        if not all([variable in bound + inside for variable in variables_of(row)]):
            return False
    own = [variable for row in hidden for variable in variables_of(row) if variable not in bound]
    return len(own) == len(set(own))


def named(question):
    """What a question names: (kinds of knots, whether all knots, names of worths, kinds of ties)."""
    rows = [inner for row in question[1] for inner in (row[1] if row[0] == "no" else (row,))]
    every = any([row[0] == "any" for row in rows])
    return named_by(rows, ("knot",)), every, named_by(rows, ("holds",)), named_by(rows, ("tie", "way"))


def named_by(rows, words):
    """What stands behind the first variable in rows that begin with these words, unlike, rising."""
    return tuple(sorted({row[2] for row in rows if row[0] in words}))
