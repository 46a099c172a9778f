"""Point 14: a whole, its moments, letting go."""

import copy
import random
import unittest

from tests.samples import HUGE, anything, some_worth
from websplit.errors import Gone, NoBatch, NoMoment
from websplit.things import written
from websplit.webs import Web
from websplit.webtexts import read_web, show_web
from websplit.whole import Whole

ASKERS = ("ann", "bob", "cat")


def some_deed(chance):
    """Any deed, one that can't be among it."""
    number, far = chance.randrange(12), chance.randrange(12)
    name, kind = chance.choice(("age", "town", "x")), chance.choice(("a", "b"))
    bar = chance.choice((("kind", kind), ("one", number), ("name", name), ("ties", kind), ("holding", name, far)))
    return chance.choice((
        ("knot", chance.randrange(500), kind, ((name, some_worth(chance)),)), ("knot", number, kind, ()),
        ("knot", number, kind, ()), ("tie", chance.randrange(500), kind, number, far, 1 + far),
        ("tie", chance.randrange(500), kind, number, far, 1 + far), ("put", number, name, some_worth(chance)),
        ("put", number, name, some_worth(chance)), ("out", number, name), ("cut", chance.randrange(500)),
        ("drop", number), ("bar", chance.choice(ASKERS), bar), ("free", chance.choice(ASKERS), bar)))


class Model:
    """A second whole, which keeps all of each moment, and does deeds that the first one took."""

    def __init__(self):
        self.knots, self.ties, self.bars = {}, {}, []

    def do(self, deed):
        word, *told = deed
        if word == "knot":
            self.knots[told[0]] = [told[1], dict(told[2])]
        elif word == "tie":
            self.ties[told[0]] = told[1:]
        elif word == "put":
            self.knots[told[0]][1][told[1]] = told[2]
        elif word == "out":
            del self.knots[told[0]][1][told[1]]
        elif word == "cut":
            del self.ties[told[0]]
        elif word == "drop":
            del self.knots[told[0]]
        elif word == "bar":
            self.bars.append(told)
        else:
            self.bars.remove(told)

    def told(self):
        rows = [(number, *row) for number, row in self.knots.items()]
        text = show_web(Web(rows, [(number, *row) for number, row in self.ties.items()]))
        return text, [tuple(sorted((bar for name, bar in self.bars if name == asker), key=written)) for asker in ASKERS]


def told_of(whole, moment):
    return show_web(whole.web(moment=moment)), [whole.bars(asker, moment=moment) for asker in ASKERS]


class Histories(unittest.TestCase):
    def test_each_kept_moment_is_told_as_when_it_was_the_last(self):
        moments = [self.go_through(random.Random(seed)) for seed in range(25)]
        self.assertGreater(sum(moments), 400)

    def go_through(self, chance):
        """How many moments a history of any batches comes to."""
        whole, model = Whole(), Model()
        told, first = [model.told()], 0
        for at in range(60):
            batch = [some_deed(chance) for _ in range(chance.choice((1, 1, 2, 3)))]
            if at == 0:
                batch = [("knot", number, "a", ()) for number in range(8)]
            try:
                moment = whole.tell(batch)
            except NoBatch:
                self.assertEqual(whole.last(), len(told) - 1)
            else:
                for deed in batch:
                    model.do(deed)
                told.append(model.told())
                self.assertEqual((moment, whole.last()), (len(told) - 1, len(told) - 1))
            if chance.random() < 0.1:
                go = chance.randrange(len(told))
                self.assertIsNone(whole.let_go(go))
                first = max(first, go)
            self.assertEqual(whole.first(), first)
            self.assertEqual(told_of(whole, None), told[-1])
            for moment in range(first, len(told)):
                self.assertEqual(told_of(whole, moment), told[moment])
        return len(told)

    def test_a_refused_batch_is_refused_rightly(self):
        """Each batch that is refused at a place would be done up to there, and only up to there."""
        for seed in range(25):
            chance, whole = random.Random(seed), Whole()
            whole.tell([("knot", number, "a", ()) for number in range(8)])
            for _ in range(60):
                batch = [some_deed(chance) for _ in range(3)]
                try:
                    whole.tell(batch)
                except NoBatch as refused:
                    if refused.at:
                        whole.tell(batch[:refused.at])
                    with self.assertRaises(NoBatch) as caught:
                        whole.tell(batch[refused.at:])
                    self.assertEqual((caught.exception.at, caught.exception.why), (0, refused.why))


class Moments(unittest.TestCase):
    def setUp(self):
        self.whole = Whole()
        self.whole.tell([("knot", 1, "a", ()), ("bar", "ann", ("one", 1))])
        self.whole.tell([("put", 1, "age", 5), ("bar", "ann", ("kind", "a"))])
        self.whole.tell([("put", 1, "age", 6), ("free", "ann", ("one", 1))])
        self.texts = ["", "knot 1 a", "knot 1 a age=5", "knot 1 a age=6"]
        self.bars = [(), (("one", 1),), (("kind", "a"), ("one", 1)), (("kind", "a"),)]

    def test_moment_0(self):
        whole = Whole()
        self.assertEqual((whole.first(), whole.last(), whole.web(), whole.bars("ann")), (0, 0, Web(), ()))
        self.assertEqual((whole.web(moment=0), whole.bars("ann", moment=0)), (Web(), ()))
        self.assertEqual(whole.tell([("bar", "ann", ("one", 1))]), 1)

    def test_by_number_by_none_left_out(self):
        for moment in range(4):
            self.assertEqual(self.whole.web(moment=moment), read_web(self.texts[moment]))
            self.assertEqual(self.whole.bars("ann", moment=moment), self.bars[moment])
        self.assertEqual(self.whole.web(), self.whole.web(moment=None))
        self.assertEqual(self.whole.web(), read_web(self.texts[3]))
        self.assertEqual(self.whole.bars(asker="ann"), self.bars[3])
        self.assertEqual(self.whole.bars("ann", moment=None), self.bars[3])
        self.assertEqual((self.whole.first(), self.whole.last()), (0, 3))

    def test_moments_are_handed_in_by_name_alone(self):
        with self.assertRaises(TypeError):
            self.whole.web(1)
        with self.assertRaises(TypeError):
            self.whole.bars("ann", 1)

    def test_bars_rise_by_their_writings(self):
        bars = [("one", 9), ("one", 10), ("ties", "a"), ("kind", "b"), ("name", "a"), ("holding", "a", 5),
                ("holding", "a", -5), ("holding", "a", "x"), ("kind", "ab"), ("one", 100)]
        self.whole.tell([("bar", "bob", bar) for bar in bars])
        told = self.whole.bars("bob")
        # By their writings 100 stands ahead of 10: "[one 100]" is less than "[one 10]".
        self.assertEqual(told, (("holding", "a", -5), ("holding", "a", 5), ("holding", "a", "x"), ("kind", "ab"),
                                ("kind", "b"), ("name", "a"), ("one", 100), ("one", 10), ("one", 9), ("ties", "a")))
        self.assertIs(type(told), tuple)

    def test_who_is_barred_from_nothing(self):
        for asker in ("zed", "a", None):
            self.assertEqual(self.whole.bars(asker), ())
        self.whole.tell([("free", "ann", ("kind", "a"))])
        self.assertEqual(self.whole.bars("ann"), ())
        self.assertIs(type(self.whole.bars("ann")), tuple)

    def test_let_go(self):
        self.assertIsNone(self.whole.let_go(2))
        self.assertEqual((self.whole.first(), self.whole.last()), (2, 3))
        for go in (0, 1, 2):
            self.assertIsNone(self.whole.let_go(moment=go))
            self.assertEqual((self.whole.first(), self.whole.last()), (2, 3))
        for moment in (0, 1):
            for ask in (lambda: self.whole.web(moment=moment), lambda: self.whole.bars("ann", moment=moment)):
                with self.assertRaises(Gone) as caught:
                    ask()
                self.assertEqual(caught.exception.begin, 2)
        for moment in (2, 3):
            self.assertEqual(self.whole.web(moment=moment), read_web(self.texts[moment]))
            self.assertEqual(self.whole.bars("ann", moment=moment), self.bars[moment])

    def test_let_go_of_all_but_the_last(self):
        self.whole.let_go(3)
        self.assertEqual((self.whole.first(), self.whole.last()), (3, 3))
        self.assertEqual((self.whole.web(), self.whole.bars("ann")), (read_web(self.texts[3]), self.bars[3]))
        self.assertEqual(self.whole.tell([("put", 1, "age", 7)]), 4)
        self.assertEqual(self.whole.web(moment=3).worths(1), {"age": 6})
        self.assertEqual(self.whole.web(moment=4).worths(1), {"age": 7})
        with self.assertRaises(Gone) as caught:
            self.whole.web(moment=2)
        self.assertEqual(caught.exception.begin, 3)

    def test_what_is_no_moment(self):
        for go in (0, 2):
            self.whole.let_go(go)
            wrong = [thing for thing in anything() if type(thing) is not int] + [-1, -2, 4, 5, 1000, HUGE, -HUGE]
            for asked in wrong:
                asks = [lambda: self.whole.let_go(asked)]
                if asked is not None:
                    asks += [lambda: self.whole.web(moment=asked), lambda: self.whole.bars("ann", moment=asked)]
                for ask in asks:
                    ahead = copy.deepcopy(asked)
                    with self.assertRaises(NoMoment) as caught:
                        ask()
                    self.assertIs(caught.exception.asked, asked)
                    self.assertEqual(asked, ahead)
            self.assertEqual((self.whole.first(), self.whole.last()), (go, 3))
            self.assertEqual(self.whole.web(), read_web(self.texts[3]))

    def test_what_is_told_is_the_askers_own(self):
        for moment in (None, 3, 2):
            web = self.whole.web(moment=moment)
            self.assertIsNot(self.whole.web(moment=moment), web)
            web.worths(1)["age"] = 99
            web.knot_rows.clear()
            self.assertEqual(self.whole.web(moment=moment).worths(1), {"age": 5 if moment == 2 else 6})

    def test_a_told_web_stays_whatever_is_done_later(self):
        told = [self.whole.web(moment=moment) for moment in range(4)]
        self.whole.tell([("put", 1, "age", 8), ("put", 1, "b", 8), ("knot", 2, "a", ())])
        self.whole.let_go(4)
        self.assertEqual([show_web(web) for web in told], self.texts)

    def test_two_wholes_touch_nothing_of_each_other(self):
        other = Whole()
        self.assertEqual((other.last(), other.web(), other.bars("ann")), (0, Web(), ()))
        other.tell([("knot", 1, "b", ()), ("bar", "ann", ("kind", "a"))])
        other.let_go(1)
        self.assertEqual((self.whole.first(), self.whole.last()), (0, 3))
        self.assertEqual(self.whole.web(), read_web(self.texts[3]))
        self.assertEqual(other.web(), read_web("knot 1 b"))
        self.assertEqual((other.bars("ann"), other.first(), other.last()), ((("kind", "a"),), 1, 1))

    def test_two_hundred_moments_and_some_more(self):
        for k in range(4, 231):
            self.assertEqual(self.whole.tell([("put", 1, "age", k)]), k)
        self.assertEqual([self.whole.web(moment=k).worths(1)["age"] for k in (4, 99, 200, 230)], [4, 99, 200, 230])


if __name__ == "__main__":
    unittest.main()
