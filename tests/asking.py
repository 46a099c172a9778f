"""Webs and questions by chance, and second judges of what is asked: by all knots for all variables, no plan."""

import itertools

from websplit.webs import Web

VARIABLES = ("x", "y", "z", "w")
NUMBERS = (0, 1, 2, 7, 8, 9, 10, 15, 99, 100, 999)
SORTS = ("knot", "any", "holds", "tie", "way", "unlike")


def some_worth(chance):
    return chance.choice((-1, 0, 1, 2, 10, "a", "ab", "b"))


def some_knots(chance, count):
    names = [chance.sample(("p", "q"), chance.randint(0, 2)) for _ in range(count)]
    return [(number, chance.choice("ab"), {name: some_worth(chance) for name in names[at]})
            for at, number in enumerate(chance.sample(NUMBERS, count))]


def some_ties(chance, knots, count):
    numbers = [row[0] for row in knots]
    if not numbers:
        return []
    return [(number, chance.choice("ttu"), chance.choice(numbers), chance.choice(numbers), chance.choice((1, 5)))
            for number in chance.sample(range(30), count)]


def some_web(chance, knots=5, ties=8):
    """A web of at most so many knots and ties."""
    rows = some_knots(chance, chance.randint(0, knots))
    return Web(rows, some_ties(chance, rows, chance.randint(0, ties)))


def rows_of(web):
    """The knots and the ties of which a web can be made."""
    return ([(knot, web.kind(knot), web.worths(knot)) for knot in web.knots()],
            [(tie, *web.tie(tie)) for tie in web.ties()])


def some_plain_row(chance, variables):
    v, w = chance.choice(variables), chance.choice(variables)
    return chance.choice((
        ("knot", v, chance.choice("abc")), ("any", v),
        ("holds", v, chance.choice("pqr"), chance.choice(("same", "less", "more")), some_worth(chance)),
        ("tie", v, chance.choice("ttu"), w), ("tie", v, chance.choice("ttu"), w),
        ("way", v, chance.choice("ttu"), w, chance.randint(1, 4)), ("unlike", v, w)))


def some_row(chance, variables):
    if chance.random() < 0.25:
        return ("no", tuple(some_plain_row(chance, variables) for _ in range(chance.randint(1, 3))))
    return some_plain_row(chance, variables)


def some_question(chance, variables=4):
    """A question of at most so many variables."""
    while True:
        held = chance.sample(VARIABLES, chance.randint(1, variables))
        rows = tuple(some_row(chance, held) for _ in range(chance.randint(1, chance.choice((3, 8)))))
        shown = tuple(chance.choice(held) for _ in range(chance.randint(0, 4)))
        if verdict((shown, rows)) == "question":
            return shown, rows


def some_answered(chance, web, variables=4):
    """A question that mostly has an answer."""
    for _ in range(4):
        question = some_question(chance, variables)
        if Second(web).answer(question):
            break
    return question


def some_bar(chance):
    return chance.choice((
        ("kind", chance.choice("abc")), ("ties", chance.choice("tu")), ("name", chance.choice("pq")),
        ("holding", chance.choice("pq"), some_worth(chance)), ("one", chance.randrange(12)), ("one", chance.randrange(5))))


def some_deed(chance, whole):
    """A deed for the last moment of a whole that mostly can be."""
    web, asker = whole.web(), chance.choice(("ann", "bob"))
    knot, far = [chance.choice(web.knots() or [0]) for _ in range(2)]
    free = [number for number in range(40) if number not in web.knots()]
    return chance.choice((
        ("knot", chance.choice(free), chance.choice("ab"), (("p", some_worth(chance)),)),
        ("tie", chance.randrange(1000), chance.choice("tu"), knot, far, 1),
        ("tie", chance.randrange(1000), chance.choice("tu"), knot, far, 1),
        ("put", knot, chance.choice("pq"), some_worth(chance)), ("out", knot, chance.choice("pq")),
        ("cut", chance.choice(web.ties() or [0])), ("drop", knot), ("bar", asker, some_bar(chance)),
        ("bar", asker, some_bar(chance)), ("free", asker, chance.choice(whole.bars(asker) or (("one", 1),)))))


def is_letters(thing, most):
    return type(thing) is str and 1 <= len(thing) <= most and set(thing) <= set("abcdefghijklmnopqrstuvwxyz")


def is_row(row, inside=False):
    """Whether anything is a row by itself."""
    def name(at):
        return is_letters(row[at], 8)

    if type(row) is not tuple or not row or type(row[0]) is not str:
        return False
    if row[0] == "no":
        return (not inside and len(row) == 2 and type(row[1]) is tuple and len(row[1]) in (1, 2, 3)
                and all(is_row(inner, True) for inner in row[1]))
    if row[0] == "any":
        return len(row) == 2 and name(1)
    if row[0] in ("knot", "unlike"):
        return len(row) == 3 and name(1) and name(2)
    if row[0] == "tie":
        return len(row) == 4 and name(1) and name(2) and name(3)
    if row[0] == "way":
        return len(row) == 5 and name(1) and name(2) and name(3) and type(row[4]) is int and row[4] in (1, 2, 3, 4)
    if row[0] == "holds":
        return (len(row) == 5 and name(1) and name(2) and type(row[3]) is str and row[3] in ("same", "less", "more")
                and (is_letters(row[4], 12) or type(row[4]) is int and abs(row[4]) < 10 ** 9))
    return False


def stands(row):
    """The variables that stand in a row."""
    if row[0] == "no":
        return set().union(*[stands(inner) for inner in row[1]])
    places = {"tie": (1, 3), "way": (1, 3), "unlike": (1, 2)}
    return {row[at] for at in places.get(row[0], (1,))}


def bound_in(rows):
    return set().union(*[stands(row) for row in rows if row[0] in ("knot", "any", "tie", "way")])


def needing(rows):
    return set().union(*[stands(row) for row in rows if row[0] in ("holds", "unlike")])


def verdict(thing):
    """Of anything: "question", or the `at` with which it is refused."""
    if type(thing) is not tuple or len(thing) != 2 or type(thing[1]) is not tuple:
        return None
    shown, rows = thing
    for at, row in enumerate(rows):
        if not is_row(row):
            return at
    if type(shown) is not tuple or len(shown) > 4 or not all(is_letters(name, 8) for name in shown):
        return None
    if not 1 <= len(rows) <= 8 or len(set().union(*[stands(row) for row in rows])) > 4:
        return None
    bound = bound_in(rows)
    if (set(shown) | needing(rows)) - bound:
        return None
    hidden = [row for row in rows if row[0] == "no"]
    if any(needing(row[1]) - bound - bound_in(row[1]) for row in hidden):
        return None
    if any((stands(one) & stands(other)) - bound for one, other in itertools.combinations(hidden, 2)):
        return None
    return "question"


def outer_of(rows):
    """The outer variables, rising."""
    return sorted(set().union(*[stands(row) for row in rows if row[0] != "no"]))


class Second:
    """A second search of a web."""

    def __init__(self, web):
        knots, ties = rows_of(web)
        self.knots = {number: (kind, worths) for number, kind, worths in knots}
        self.ties = {number: row for number, *row in ties}
        self.ways = {}

    def leads(self, start, kind, end, most):
        """Whether one to most ties of the kind lead from a knot to a knot."""
        key = (start, kind, end, most)
        if key not in self.ways:
            nexts = [row[2] for row in self.ties.values() if row[:2] == [kind, start]]
            self.ways[key] = end in nexts or most > 1 and any(self.leads(far, kind, end, most - 1) for far in nexts)
        return self.ways[key]

    def holds(self, row, told):
        if row[0] == "no":
            own = sorted(stands(row) - set(told))
            return not any(all(self.holds(inner, {**told, **more}) for inner in row[1]) for more in self.tellings(own))
        if row[0] == "knot":
            return self.knots[told[row[1]]][0] == row[2]
        if row[0] == "holds":
            return self.holds_worth(self.knots[told[row[1]]][1].get(row[2]), row[3], row[4])
        if row[0] == "unlike":
            return told[row[1]] != told[row[2]]
        if row[0] in ("tie", "way"):
            return self.leads(told[row[1]], row[2], told[row[3]], row[4] if row[0] == "way" else 1)
        return True

    def holds_worth(self, held, word, worth):
        if type(held) is not type(worth):
            return False
        return {"same": held == worth, "less": held < worth, "more": held > worth}[word]

    def tellings(self, variables):
        for knots in itertools.product(self.knots, repeat=len(variables)):
            yield dict(zip(variables, knots))

    def found(self, question):
        """All knots for all outer variables so that every row holds."""
        outer = outer_of(question[1])
        return [told for told in self.tellings(outer) if all(self.holds(row, told) for row in question[1])]

    def answer(self, question):
        return sorted({tuple(told[name] for name in question[0]) for told in self.found(question)})


def told_plan(rows, bound=()):
    """The plan that point 20 tells, word by word."""
    outer, bound, order = set(outer_of(rows)), set(bound), []

    def free(row):
        return (stands(row) & outer if row[0] == "no" else stands(row)) - bound

    while len(order) < len(rows):
        left = [at for at in range(len(rows)) if at not in order]
        takes = [
            [at for at in left if not free(rows[at])],
            [at for at in left if rows[at][0] in ("tie", "way") and len(free(rows[at])) < len(stands(rows[at]))],
            [at for at in left if rows[at][0] == "knot"],
            [at for at in left if rows[at][0] in ("any", "tie", "way")],
        ]
        at = next(places[0] for places in takes if places)
        order.append(at)
        if rows[at][0] in ("knot", "any", "tie", "way"):
            bound |= stands(rows[at])
    return tuple(order)


def is_told_order(rows, order):
    """Whether point 20 allows an order of all places."""
    outer = set(outer_of(rows))
    return all(stands(rows[at]) & outer <= bound_in([rows[ahead] for ahead in order[:step]])
               for step, at in enumerate(order) if rows[at][0] in ("holds", "unlike", "no"))


def variants(thing, pool):
    """All that is otherwise than a thing of tuples in one place: another leaf, a part out, twice, two turned about."""
    for other in pool:
        yield other
    if not isinstance(thing, tuple):
        return
    yield list(thing)
    for at, part in enumerate(thing):
        yield thing[:at] + thing[at + 1:]
        yield thing[:at] + (part,) + thing[at:]
        if at:
            yield thing[:at - 1] + (part, thing[at - 1]) + thing[at + 1:]
        for other in variants(part, pool):
            yield thing[:at] + (other,) + thing[at + 1:]
    for other in pool:
        yield thing + (other,)
