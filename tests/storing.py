"""Stores, histories for them, and all that they tell."""

from tests.asking import some_deed, some_question
from tests.housing import reply, slots_at
from websplit.disks import Disk
from websplit.store import Store
from websplit.webtexts import show_web

ASKERS = ("ann", "bob", "zed", None)
SPREAD = (0, 1, 2, 3, 4, 5, 0, 1)
BEGIN = (
    ("knot", 0, "a", (("p", 1), ("q", "b"))), ("knot", 1, "a", (("p", 2),)), ("knot", 2, "b", (("p", 2),)),
    ("knot", 3, "b", ()), ("knot", 8, "a", (("q", 1),)), ("knot", 15, "b", (("p", 1),)),
    ("tie", 1, "t", 0, 1, 3), ("tie", 2, "t", 1, 2, 4), ("tie", 3, "u", 2, 8, 1), ("tie", 4, "t", 8, 0, 5),
    ("tie", 5, "u", 3, 3, 2), ("tie", 6, "t", 0, 1, 2), ("tie", 7, "t", 15, 3, 1),
)
KIND = (("x",), (("knot", "x", "a"),))
PAIRS = (("x", "y"), (("tie", "x", "t", "y"),))
NO = (("x",), (("any", "x"), ("no", (("tie", "x", "t", "y"), ("knot", "y", "b")))))


def begun(placing=SPREAD, disk=None):
    """A store with a web, and with bars for ann."""
    store = Store(disk or Disk(), placing=placing)
    store.tell(BEGIN)
    store.tell([("bar", "ann", ("one", 1)), ("bar", "ann", ("name", "q"))])
    return store


def some_placing(chance):
    houses = chance.sample(range(6), chance.randint(1, 6))
    return tuple(chance.choice(houses) for _ in range(8))


def outcome(ask, *told, **named):
    """What is told, or the class and the fields of the refusal."""
    try:
        return "told", ask(*told, **named)
    except Exception as error:
        return type(error), vars(error)


# Deeds as tuples, so that a history can be told to several stores.
def do(store, deed):
    word, *told = deed
    if word == "keep":
        return store.keep(told[0], told[1], asker=told[2])
    return getattr(store, word)(*told)


def some_turn(chance, store):
    """A deed for a store as it is, which mostly can be."""
    name = chance.choice("abcd")
    return chance.choice(
        [("tell", tuple(some_deed(chance, store) for _ in range(chance.choice((1, 1, 2, 4)))))] * 8
        + [("let_go", chance.randint(0, store.last()))]
        + [("keep", name, some_question(chance, variables=3), chance.choice(ASKERS))] * 2 + [("forget", name)]
        + [("move", chance.randrange(8), chance.randrange(6))] * 2 + [("move_on",)] * 4 + [("move_back",)])


def some_history(chance, placing, turns):
    """A list of deeds, those that are refused among them."""
    store = Store(Disk(), placing=placing)
    history = [("tell", BEGIN)]
    do(store, history[0])
    for _ in range(turns):
        history.append(some_turn(chance, store))
        outcome(do, store, history[-1])
    return history


def kept_told(store):
    return {name: (store.kept(name), store.came(name), store.went(name), store.searches(name)) for name in store.names()}


def snap(store):
    """All that a store tells that is there still when it is opened again."""
    moments = range(store.first(), store.last() + 1)
    return {
        "moments": (store.first(), store.last()),
        "webs": [show_web(store.web(moment=moment)) for moment in moments],
        "seen": [show_web(store.web(asker="ann", moment=moment)) for moment in moments],
        "bars": [[store.bars(asker, moment=moment) for asker in ASKERS] for moment in moments],
        "kept": {name: store.kept(name) for name in store.names()},
        "placing": store.placing(), "moving": store.moving(),
        "houses": {number: [said(store.house(number), moment) for moment in moments] for number in set(store.placing())},
    }


def messages(moment, bars=()):
    """Messages that ask for all that a house has, but for the far ends of its ties."""
    knots = tuple(range(40))
    yield "knots", moment, bars, None
    yield "look", moment, bars, knots
    for kind in "tu":
        yield "ties", moment, bars, kind
        yield "outs", moment, bars, knots, kind
        yield "ins", moment, bars, knots, kind


def said(house, moment, bars=()):
    return [house.answer(message) for message in messages(moment, bars)]


def said_too(web, placing, number, moment, bars=()):
    """What a second house would say."""
    return [reply(web, slots_at(placing, number), message) for message in messages(moment, bars)]
