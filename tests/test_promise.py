"""Point 4: what holds for every history. (Falls and moves have files of their own: test_falls, test_moves.)"""

import random
import unittest

from tests.asking import Second, some_question
from tests.storing import kept_told, outcome, said, some_placing
from tests.test_rounds import Recorder, some_step
from websplit.disks import Disk
from websplit.fronts import mail_size
from websplit.papers import shows
from websplit.store import Store
from websplit.webtexts import show_web

# All that these name is barred to ann.
BARS = (("kind", "c"), ("ties", "v"), ("name", "r"), ("holding", "q", 9), ("one", 5), ("one", 12))
SEEN = (
    ("knot", 0, "a", (("p", 1), ("q", "b"))), ("knot", 1, "a", (("p", 2),)), ("knot", 2, "b", (("p", 2),)), ("knot", 3, "b", ()),
    ("knot", 8, "a", (("q", 1),)), ("tie", 1, "t", 0, 1, 3), ("tie", 2, "t", 1, 2, 4), ("tie", 3, "u", 2, 8, 1), ("tie", 4, "t", 8, 0, 5),
    ("tie", 5, "u", 3, 3, 2),
)


class Pair:
    """Two stores that are told the same but for what is barred to ann."""

    def __init__(self, chance, bars_first):
        self.chance = chance
        placing = some_placing(chance)
        self.stores = [Store(Disk(), placing=placing) for _ in range(2)]
        self.seen_numbers, self.hidden_numbers, self.had = iter(range(20, 100)), iter(range(190)), []
        if bars_first:
            self.tell_bars()
        self.tell(SEEN)

    def tell_bars(self):
        self.tell([("bar", "ann", bar) for bar in BARS])

    def both(self, ask):
        return [ask(store) for store in self.stores]

    def tell(self, deeds):
        """Tells the same deeds to both, each with barred ones of its own among them."""
        for at, store in enumerate(self.stores):
            batch = list(deeds)
            for deed in self.hidden_deeds(at, deeds):
                batch.insert(self.chance.randint(0, len(batch)), deed)
            store.tell(batch)

    def hidden_deeds(self, at, deeds):
        """Deeds that ann sees nothing of, about knots that the other deeds don't speak of."""
        chance, web = self.chance, self.stores[at].web()
        knots = [knot for knot in web.knots() if knot not in [deed[1] for deed in deeds]]
        hidden = [knot for knot in knots if web.kind(knot) == "c"]
        found = [("knot", 400 + next(self.hidden_numbers), "c", (("p", chance.randrange(3)),))]
        found.append(("knot", 700 + next(self.hidden_numbers), chance.choice("ab"), (("q", 9), ("p", 1))))
        if knots:
            found.append(("put", chance.choice(knots), "r", chance.randrange(9)))
            found.append(("tie", 100 + next(self.hidden_numbers), "v", chance.choice(knots), chance.choice(knots), 1))
        if hidden:
            near, far = chance.choice(hidden), chance.choice(knots)
            found.append(("tie", 300 + next(self.hidden_numbers), chance.choice("tu"), *chance.choice(((near, far), (far, near))), 1))
        found += [("cut", tie) for tie in web.ties() if tie >= 100][:1]
        for knot in (5, 12):
            if (at, knot) not in self.had and chance.random() < 0.2:
                self.had.append((at, knot))
                return [("knot", knot, "a", (("p", 1),))]
        return chance.sample(found, chance.randint(0 if deeds else 1, min(4, len(found))))

    def some_seen_deed(self):
        """A deed that both stores take; it may hide a knot from ann, or show it again."""
        chance, web = self.chance, self.stores[0].web(asker="ann")
        both = [knot for knot in web.knots() if all(knot in store.web().knots() for store in self.stores)]
        knot, far, number = chance.choice(both), chance.choice(both), next(self.seen_numbers)
        ties = [tie for tie in web.ties() if tie < 100] or [1]
        return chance.choice((
            ("knot", 800 + number, chance.choice("ab"), (("p", chance.randrange(3)),)),
            ("tie", number, chance.choice("tu"), knot, far, chance.randint(1, 5)),
            ("tie", number, chance.choice("tu"), knot, far, chance.randint(1, 5)),
            ("put", knot, "p", chance.randrange(3)), ("put", knot, "q", chance.choice((1, 9, "b"))), ("cut", chance.choice(ties)),
            ("bar", "ann", ("one", chance.choice((2, 6, 7, 830)))), ("bar", "bob", ("one", chance.randrange(40)))))

    def turn(self):
        """Something that is told to both."""
        chance, first = self.chance, self.stores[0]
        word = chance.choice(("tell",) * 6 + ("hidden", "hidden", "let", "move", "on", "on", "on", "back", "keep", "forget", "open"))
        name, slot, house = chance.choice("abc"), chance.randrange(8), chance.randrange(6)
        if word == "tell":
            deeds = [self.some_seen_deed()]
            refused = [outcome(Store(Disk(rows=store.disk.rows())).tell, deeds)[0] != "told" for store in self.stores]
            if not any(refused):
                self.tell(deeds)
        elif word == "hidden":
            self.tell([])
        elif word == "let":
            moment = chance.randint(0, first.last())
            self.both(lambda store: store.let_go(moment))
        elif word == "keep":
            question = some_question(chance, variables=3)
            self.both(lambda store: outcome(store.keep, name, question, asker="ann"))
        elif word == "forget":
            self.both(lambda store: outcome(store.forget, name))
        elif word == "open":
            self.stores = self.both(lambda store: Store(Disk(rows=store.disk.rows())))
        else:
            deed = {"move": lambda store: store.move(slot, house), "on": lambda store: store.move_on(), "back": lambda store: store.move_back()}
            self.both(lambda store: outcome(deed[word], store))


class Blind(unittest.TestCase):
    def assert_same(self, pair, ask):
        one, other = pair.both(lambda store: outcome(ask, store))
        self.assertEqual(one, other)
        return one

    def compare(self, pair, chance):
        """All that ann is told, by both stores."""
        first, last = pair.stores[0].first(), pair.stores[0].last()
        self.assert_same(pair, lambda store: (store.first(), store.last(), store.placing(), store.moving(), store.names()))
        for moment in range(last + 2):
            self.assert_same(pair, lambda store: show_web(store.web(asker="ann", moment=moment)))
            self.assert_same(pair, lambda store: store.bars("ann", moment=moment))
        for moment in (None, chance.randint(first, last)):
            self.compare_asked(pair, chance, moment)
            self.compare_houses(pair, last if moment is None else moment)
        self.assert_same(pair, kept_told)

    def compare_asked(self, pair, chance, moment):
        told = {"asker": "ann", "moment": moment}
        question = some_question(chance, variables=3)
        lines = self.assert_same(pair, lambda store: store.ask(question, **told))[1]
        mail = self.assert_same(pair, lambda store: store.mail())[1]
        self.assertEqual(len(mail), mail_size(question) * len(set(pair.stores[0].placing())))
        web = pair.stores[0].web(**told)
        self.assertEqual(lines, Second(web).answer(question))
        for asked in lines[:2] + [(5,) * len(question[0]), (12,) * len(question[0])]:
            paper = self.assert_same(pair, lambda store: store.showing(question, asked, **told))
            self.assertIs(paper[0] == "told" and shows(web, question, asked, paper[1]), asked in lines)
        if len(web) <= 6:
            self.assert_same(pair, lambda store: store.barring(question, **told))
        kinds = chance.choice((("t",), ("u", "v"), ("t", "u", "v"), ()))
        for knot in (0, 1, 2, 5, 12, *[knot for store in pair.stores for knot in store.web().knots() if knot > 400][:4]):
            self.assert_same(pair, lambda store: store.least(knot, kinds, **told))
        self.assert_same(pair, lambda store: store.parts(kinds, **told))
        self.compare_runs(pair, chance, told)

    def compare_runs(self, pair, chance, told):
        seed = chance.randrange(1000)

        def calls(store):
            step = Recorder(some_step(seed, 3))
            return store.run(step, **told), step.calls, store.crossed()

        self.assert_same(pair, calls)
        hidden = [tie for store in pair.stores for tie in store.web(moment=told["moment"]).ties() if tie >= 100]
        for tie in hidden[:3]:
            self.assert_same(pair, lambda store: store.run(lambda knot, held, got, ties: (None, () if got else ((tie, 1),)), **told))

    def compare_houses(self, pair, moment):
        bars = pair.stores[0].bars("ann", moment=moment) + pair.stores[0].bars("ann")
        bars = tuple(sorted(set(bars), key=lambda bar: "[" + " ".join(map(str, bar)) + "]"))
        for number in set(pair.stores[0].placing()):
            self.assert_same(pair, lambda store: said(store.house(number), moment, bars))

    def test_stores_alike_but_for_what_is_barred(self):
        otherwise = kept = 0
        for seed in range(30):
            chance = random.Random(seed)
            pair = Pair(chance, True)
            for _ in range(16):
                pair.turn()
                self.compare(pair, chance)
            otherwise += pair.stores[0].web() != pair.stores[1].web()
            kept += sum(row[3] > 1 for row in kept_told(pair.stores[0]).values())
        self.assertGreater(otherwise, 25)
        self.assertGreater(kept, 8)

    def test_bars_that_come_last_hide_elder_moments(self):
        for seed in range(30):
            chance = random.Random(1000 + seed)
            pair = Pair(chance, False)
            for _ in range(5):
                pair.tell([("put", 0, "p", chance.randrange(3))] if chance.random() < 0.5 else [])
            pair.tell_bars()
            self.assertNotEqual(*pair.both(lambda store: store.web()))
            for _ in range(4):
                self.compare(pair, chance)
                pair.turn()

    def test_one_thing_that_is_barred(self):
        """Each sort of bar, a thing of its own in one store alone."""
        for bar, deeds in (
                (("kind", "c"), [("knot", 40, "c", ()), ("tie", 40, "t", 0, 40, 1)]),
                (("ties", "v"), [("tie", 40, "v", 0, 1, 1)]),
                (("name", "r"), [("put", 0, "r", 1)]),
                (("holding", "q", 9), [("knot", 40, "a", (("q", 9),)), ("tie", 40, "t", 0, 40, 1)]),
                (("one", 40), [("knot", 40, "a", ()), ("tie", 40, "t", 40, 0, 1)])):
            stores = [Store(Disk(), placing=(0, 1, 2, 3, 4, 5, 0, 1)) for _ in range(2)]
            for store, more in zip(stores, (deeds, [("put", 0, "p", 1)])):
                store.tell([*SEEN, ("bar", "ann", bar)])
                store.keep("one", (("x", "y"), (("tie", "x", "t", "y"), ("holds", "x", "p", "same", 1))), asker="ann")
                store.keep("two", (("x",), (("any", "x"), ("no", (("tie", "x", "v", "y"),)), ("no", (("holds", "x", "r", "same", 1),)))), asker="ann")
                store.tell(more)
            self.assertNotEqual(stores[0].web(), stores[1].web())
            self.assertEqual(kept_told(stores[0]), kept_told(stores[1]))
            self.assertEqual([row[3] for row in kept_told(stores[0]).values()], [1, 1])
            for question in ((("x",), (("any", "x"),)), (("x", "y"), (("way", "x", "t", "y", 4),)), (("x",), (("any", "x"), ("holds", "x", "r", "more", 0)))):
                told = [(store.ask(question, asker="ann"), store.mail(), store.ask(question, asker="ann", moment=1), store.mail()) for store in stores]
                self.assertEqual(told[0], told[1])
            self.assertEqual(*[outcome(store.least, 40, ["t"], asker="ann") for store in stores])


if __name__ == "__main__":
    unittest.main()
