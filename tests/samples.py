"""What several tests hand in: anything, and small changes of texts."""

HUGE = 10 ** 5000


def nested(depth, kind=tuple, core=()):
    """So many lists, or tuples, within one another, around what is in the core."""
    thing = kind(core)
    for _ in range(depth - 1):
        thing = kind([thing])
    return thing


def nested_dicts(depth):
    thing = {}
    for _ in range(depth - 1):
        thing = {"a": thing}
    return thing


def anything():
    """New samples of all that "of anything" speaks of."""
    return [
        None, True, False,
        0, 1, -1, 3, 999, 1000, 10 ** 15, -10 ** 15, HUGE, -HUGE,
        "", "a", "knot", "3", "A", " ", "\n", "a\n", "%", "~", "[", "\u00e9", "\u0663",
        (), (0,), (1, 2), (None,), ("knot",), ("knot", 3, "person", ()), ((),), ([],), ({},),
        [], [0], [None], ["a"], [[]], [("knot", 3, "person", ())],
        {}, {0: 0}, {"a": 1}, {"a": []}, {None: ()},
        nested(16), nested(16, list), nested_dicts(16),
    ]


def changed(text, chance, signs):
    """A text of which one or two signs are otherwise."""
    for _ in range(chance.choice((1, 1, 2))):
        text = changed_once(text, chance, signs)
    return text


def changed_once(text, chance, signs):
    at = chance.randrange(len(text) + 1)
    deed = chance.randrange(5)
    if deed == 0:
        return text[:at] + chance.choice(signs) + text[at:]
    if deed == 1:
        return text[:at] + text[at + 1:]
    if deed == 2:
        return text[:at] + chance.choice(signs) + text[at + 1:]
    if deed == 3:
        return text[:at] + text[at + 1:at + 2] + text[at:at + 1] + text[at + 2:]
    return text[:at] + text[at:at + 1] + text[at:]


def some_worth(chance):
    return chance.choice((0, 9, 10, -1, 999999999, -999999999, "a", "rome", "abcdefghijkl", chance.randint(-99, 99)))


def some_rows(chance, knots, ties):
    """Rows of a web with so many knots and ties, in any order."""
    names = ["a", "age", "b", "town", "x", "y", "z", "abcdefgh"]
    numbers = chance.sample((0, 9, 10, 99, 100, 999) + tuple(range(200, 260)), knots)
    knot_rows = []
    for number in numbers:
        held = chance.sample(names, chance.choice((0, 1, 2, 6)))
        knot_rows.append((number, chance.choice(("person", "town")), {name: some_worth(chance) for name in held}))
    tie_rows = []
    for number in chance.sample((0, 9, 10, 99, 100, 999) + tuple(range(300, 420)), ties):
        kind = chance.choice(("knows", "lives"))
        tie_rows.append((number, kind, chance.choice(numbers), chance.choice(numbers), chance.choice((1, 9, 10, 1000))))
    return knot_rows, tie_rows
