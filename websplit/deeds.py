"""What a deed is, why it can't be, and what it does."""

from websplit.bounds import MOST_DEEDS, MOST_KNOTS, MOST_TIES, MOST_WEIGHT, MOST_WORTHS
from websplit.errors import NoBatch
from websplit.rights import is_bar
from websplit.things import is_between, is_name, is_number, is_worth


class State:
    """The knots, ties and bars of a moment, and all numbers that were ever had.

    What stands in its dicts is replaced, never changed, so that states may share it.
    """

    def __init__(self):
        self.knot_rows = {}
        self.tie_rows = {}
        self.knots_had = {}
        self.ties_had = {}
        self.barred = {}

    def draft(self):
        """A state like this one, which can be changed without changing this one."""
        other = State()
        other.knot_rows = dict(self.knot_rows)
        other.tie_rows = dict(self.tie_rows)
        other.knots_had = dict(self.knots_had)
        other.ties_had = dict(self.ties_had)
        other.barred = {key: True for key in self.barred}
        return other


def is_knot_deed(deed):
    """Whether it is as told of a new knot."""
    return len(deed) == 4 and is_number(deed[1]) and is_name(deed[2]) and is_worths(deed[3])


def is_worths(thing):
    """Whether it is a tuple of (name, worth), names unlike."""
    if not isinstance(thing, tuple) or not all([is_pair(part) for part in thing]):
        return False
    return len({name for name, worth in thing}) == len(thing)


def is_pair(thing):
    """Whether it is a tuple (name, worth)."""
    return isinstance(thing, tuple) and len(thing) == 2 and is_name(thing[0]) and is_worth(thing[1])


def is_tie_deed(deed):
    """Whether it is as told of a new tie."""
    if len(deed) != 6 or not is_number(deed[1]) or not is_name(deed[2]):
        return False
    return is_number(deed[3]) and is_number(deed[4]) and is_between(deed[5], 1, MOST_WEIGHT)


def is_put_deed(deed):
    """Whether it is as told of put."""
    return len(deed) == 4 and is_number(deed[1]) and is_name(deed[2]) and is_worth(deed[3])


def is_out_deed(deed):
    """Whether it is as told of out."""
    return len(deed) == 3 and is_number(deed[1]) and is_name(deed[2])


def is_number_deed(deed):
    """Whether it is as told of cut and drop."""
    return len(deed) == 2 and is_number(deed[1])


def is_bar_deed(deed):
    """Whether it is as told of bar and free."""
    return len(deed) == 3 and is_name(deed[1]) and is_bar(deed[2])


FORMS = {
    "knot": is_knot_deed,
    "tie": is_tie_deed,
    "put": is_put_deed,
    "out": is_out_deed,
    "cut": is_number_deed,
    "drop": is_number_deed,
    "bar": is_bar_deed,
    "free": is_bar_deed,
}


def is_deed(thing):
    """Whether it is a deed, of anything."""
    # What is no text may have no place in a dict.
    if not isinstance(thing, tuple) or not thing or not isinstance(thing[0], str) or thing[0] not in FORMS:
        return False
    fits = FORMS[thing[0]]
    return fits(thing)


def knot_fault(state, deed):
    """Why a knot can't be new, or None."""
    if deed[1] in state.knots_had:
        return "taken"
    if len(state.knot_rows) >= MOST_KNOTS or len(deed[3]) > MOST_WORTHS:
        return "many"
    return None


def tie_fault(state, deed):
    """Why a tie can't be new, or None."""
    if deed[1] in state.ties_had:
        return "taken"
    if deed[3] not in state.knot_rows or deed[4] not in state.knot_rows:
        return "knot"
    if len(state.tie_rows) >= MOST_TIES:
        return "many"
    return None


def put_fault(state, deed):
    """Why a worth can't be put, or None."""
    if deed[1] not in state.knot_rows:
        return "knot"
    worths = state.knot_rows[deed[1]][1]
    if deed[2] not in worths and len(worths) >= MOST_WORTHS:
        return "many"
    return None


def out_fault(state, deed):
    """Why a worth can't be taken out, or None."""
    if deed[1] not in state.knot_rows:
        return "knot"
    return None if deed[2] in state.knot_rows[deed[1]][1] else "worth"


def cut_fault(state, deed):
    """Why a tie can't be cut, or None."""
    return None if deed[1] in state.tie_rows else "tie"


def drop_fault(state, deed):
    """Why a knot can't be dropped, or None."""
    if deed[1] not in state.knot_rows:
        return "knot"
    return "tied" if any([deed[1] in row[1:3] for row in state.tie_rows.values()]) else None


def bar_fault(state, deed):
    """Why an asker can't be barred, or None."""
    return "twice" if deed[1:] in state.barred else None


def free_fault(state, deed):
    """Why an asker can't be freed, or None."""
    return None if deed[1:] in state.barred else "free"


FAULTS = {
    "knot": knot_fault,
    "tie": tie_fault,
    "put": put_fault,
    "out": out_fault,
    "cut": cut_fault,
    "drop": drop_fault,
    "bar": bar_fault,
    "free": free_fault,
}


def do_knot(state, deed):
    """Makes a new knot."""
    state.knot_rows[deed[1]] = (deed[2], dict(deed[3]))
    state.knots_had[deed[1]] = True


def do_tie(state, deed):
    """Makes a new tie."""
    state.tie_rows[deed[1]] = deed[2:]
    state.ties_had[deed[1]] = True


def do_put(state, deed):
    """Puts a worth."""
    number, put_name, worth = deed[1:]
    kind, worths = state.knot_rows[number]
    state.knot_rows[number] = (kind, {**worths, put_name: worth})


def do_out(state, deed):
    """Takes a worth out."""
    number, out_name = deed[1:]
    kind, worths = state.knot_rows[number]
    state.knot_rows[number] = (kind, {name: worths[name] for name in worths if name != out_name})


def do_cut(state, deed):
    """Cuts a tie."""
    del state.tie_rows[deed[1]]


def do_drop(state, deed):
    """Drops a knot."""
    del state.knot_rows[deed[1]]


def do_bar(state, deed):
    """Bars an asker."""
    asker_and_bar = deed[1:]
    state.barred[asker_and_bar] = True


def do_free(state, deed):
    """Frees an asker from a bar."""
    asker_and_bar = deed[1:]
    del state.barred[asker_and_bar]


ACTS = {
    "knot": do_knot,
    "tie": do_tie,
    "put": do_put,
    "out": do_out,
    "cut": do_cut,
    "drop": do_drop,
    "bar": do_bar,
    "free": do_free,
}


def fault(state, deed):
    """Why a deed can't be, or None; of anything."""
    if not is_deed(deed):
        return "form"
    why_not = FAULTS[deed[0]]
    return why_not(state, deed)


def after_batch(state, batch):
    """The state behind a batch; the state ahead of it stays as it is."""
    if not isinstance(batch, (list, tuple)) or not 1 <= len(batch) <= MOST_DEEDS:
        raise NoBatch(None, "form")
    draft = state.draft()
    for at, deed in enumerate(batch):
        why = fault(draft, deed)
        if why is not None:
            raise NoBatch(at, why)
        act = ACTS[deed[0]]
        act(draft, deed)
    return draft
