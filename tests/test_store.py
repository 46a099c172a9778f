"""Point 35: the store, beside a whole, a keeper and plain searches of the web that is seen."""

import copy
import random
import unittest

from tests.asking import Second, some_answered, some_deed, some_question, variants, verdict
from tests.housing import Mail
from tests.samples import anything
from tests.storing import ASKERS, BEGIN, KIND, NO, PAIRS, SPREAD, begun, do, kept_told, outcome, some_placing, some_turn
from tests.test_rights import left
from websplit.barring import bars_more
from websplit.disks import Disk
from websplit.errors import BadName, Gone, Known, NoBatch, NoKnot, NoMoment, NoName, NoQuestion, NoTuple
from websplit.fronts import by_mail, mail_size
from websplit.keeping import Keeper
from websplit.papers import shows
from websplit.spreading import least, parts
from websplit.store import Store
from websplit.webs import Web
from websplit.webtexts import read_web, show_web
from websplit.whole import Whole


class Model:
    """A whole and a keeper, which are told what a store is told."""

    def __init__(self):
        self.whole = Whole()
        self.keeper = Keeper(self.whole)

    def do(self, deed):
        if deed[0] == "let_go":
            return self.whole.let_go(deed[1])
        return do(self.keeper, deed)

    def seen(self, asker, moment):
        bars = self.whole.bars(asker, moment=moment) + self.whole.bars(asker)
        return Web(*left(self.whole.web(moment=moment), bars)), bars


class Histories(unittest.TestCase):
    def test_behind_each_of_many_deeds(self):
        counts = {"full": 0, "barred": 0, "elder": 0, "amid": 0, "refused": 0, "kept": 0}
        for seed in range(40):
            self.go_through(random.Random(seed), counts)
        self.assertGreater(min(counts.values()), 60, counts)

    def go_through(self, chance, counts):
        placing = some_placing(chance)
        store, model = Store(Disk(), placing=placing), Model()
        for turn in range(40):
            deed = ("tell", BEGIN) if turn == 0 else some_turn(chance, store)
            told = outcome(do, store, deed)
            if not deed[0].startswith("move"):
                self.assertEqual(told, outcome(model.do, deed), deed)
                counts["refused"] += told[0] != "told"
            self.compare_kept(store, model)
            counts["kept"] += bool(store.names())
            counts["amid"] += store.moving() is not None
            self.compare_moments(store, model, chance)
            self.compare_asked(store, model, chance, counts)

    def compare_kept(self, store, model):
        self.assertEqual(store.names(), model.keeper.names())
        self.assertEqual(kept_told(store), kept_told(model.keeper))

    def compare_moments(self, store, model, chance):
        whole = model.whole
        self.assertEqual((store.first(), store.last()), (whole.first(), whole.last()))
        for moment in {None, whole.first(), whole.last(), chance.randint(0, whole.last()), whole.last() + 1}:
            for asker in ASKERS:
                self.assertEqual(outcome(store.bars, asker, moment=moment), outcome(whole.bars, asker, moment=moment))
                web = outcome(lambda: model.seen(asker, moment)[0])
                self.assertEqual(outcome(store.web, asker=asker, moment=moment), web)

    def compare_asked(self, store, model, chance, counts):
        asker, moment = chance.choice(ASKERS), chance.choice((None, chance.randint(store.first(), store.last())))
        web, bars = model.seen(asker, moment)
        question = some_answered(chance, web, variables=3)
        told = Second(web).answer(question)
        self.assertEqual(store.ask(question, asker=asker, moment=moment), told)
        self.compare_mail(store, model, question, asker, moment, bars)
        for asked in told[:3]:
            self.assertIs(shows(web, question, asked, store.showing(question, asked, asker=asker, moment=moment)), True)
        if len(web) <= 6:
            self.assertIs(bars_more(web, question, told, store.barring(question, asker=asker, moment=moment)), True)
        kinds = chance.choice(((), ("t",), ["t", "u"]))
        self.assertEqual(store.parts(kinds, asker=asker, moment=moment), parts(web, kinds))
        for knot in web.knots()[:2]:
            self.assertEqual(store.least(knot, kinds, asker=asker, moment=moment), least(web, knot, kinds))
        counts["full"] += bool(told)
        counts["barred"] += len(web) < len(model.whole.web(moment=moment))
        counts["elder"] += moment not in (None, store.last())

    def compare_mail(self, store, model, question, asker, moment, bars):
        """The mail is that of by_mail over the store's houses, and that of a second front."""
        mail, placing = store.mail(), store.placing()
        asked = store.last() if moment is None else moment
        houses = {number: store.house(number) for number in placing}
        self.assertEqual(by_mail(houses, placing, question, bars, moment=asked)[1], mail)
        second = Mail(model.whole.web(moment=moment), placing, bars, moment=asked)
        second.ask(question)
        self.assertEqual(second.letters, mail)
        self.assertEqual(len(mail), mail_size(question) * len(set(placing)))


class Told(unittest.TestCase):
    def setUp(self):
        self.store = begun()

    def test_a_new_store(self):
        store = Store(Disk())
        self.assertEqual((store.first(), store.last(), store.web(), store.bars("ann")), (0, 0, Web(), ()))
        self.assertEqual((store.mail(), store.names(), store.crossed(), store.busy(), store.moving()), ([], [], 0, False, None))
        self.assertEqual((store.ask(KIND), store.parts(("t",)), store.placing()), ([], {}, (0,) * 8))

    def test_batches_and_moments(self):
        self.assertEqual(self.store.tell(batch=[("put", 0, "p", 5)]), 3)
        self.assertEqual(self.store.tell((("put", 0, "p", 6),)), 4)
        self.assertEqual([self.store.web(moment=moment).worths(0)["p"] for moment in (1, 2, 3, 4)], [1, 1, 5, 6])
        self.assertEqual(self.store.web(moment=None), self.store.web())
        self.assertIsNone(self.store.let_go(moment=3))
        self.assertEqual((self.store.first(), self.store.last()), (3, 4))
        for moment in (0, 1, 2):
            for ask in (lambda: self.store.web(moment=moment), lambda: self.store.ask(KIND, moment=moment),
                        lambda: self.store.bars("ann", moment=moment), lambda: self.store.parts((), moment=moment)):
                self.assertEqual(outcome(ask), (Gone, {"begin": 3}))
        self.assertIsNone(self.store.let_go(0))
        self.assertEqual((self.store.first(), self.store.web(moment=3).worths(0)["p"]), (3, 5))

    def test_bars_as_of_the_moment_and_as_of_the_last_one(self):
        self.store.tell([("free", "ann", ("one", 1)), ("bar", "ann", ("kind", "b"))])
        self.assertEqual([self.store.web(asker="ann", moment=moment).knots() for moment in range(4)],
                         [[], [0, 1, 8], [0, 8], [0, 1, 8]])
        self.assertEqual(self.store.ask(KIND, asker="ann", moment=2), [(0,), (8,)])
        self.assertEqual(self.store.mail()[0][1][2], (("kind", "b"), ("name", "q"), ("one", 1)))
        self.assertEqual(self.store.bars("ann", moment=2), (("name", "q"), ("one", 1)))
        self.assertEqual(self.store.bars("ann"), (("kind", "b"), ("name", "q")))
        self.assertEqual((self.store.bars(None), self.store.bars("zed"), self.store.bars(asker="bob")), ((), (), ()))

    def test_the_web_as_seen(self):
        text = show_web(self.store.web(asker="ann"))
        self.assertEqual(text, "knot 0 a p=1\nknot 2 b p=2\nknot 3 b\nknot 8 a\nknot 15 b p=1\n"
                               "tie 3 u 2 8 1\ntie 4 t 8 0 5\ntie 5 u 3 3 2\ntie 7 t 15 3 1")
        self.assertEqual(self.store.web(), read_web(show_web(self.store.web(asker="bob"))))

    def test_mail_is_that_of_an_answered_question_alone(self):
        self.store.ask(KIND, asker="ann")
        mail = self.store.mail()
        self.assertEqual([letter[0] for letter in mail], [0, 1, 2, 3, 4, 5])
        self.assertEqual(mail[0], (0, ("knots", 2, (("name", "q"), ("one", 1)), "a"), (0, 8)))
        self.store.keep("one", PAIRS)
        self.store.showing(PAIRS, (0, 1))
        self.store.barring(KIND)
        self.store.tell([("put", 0, "p", 7)])
        self.store.least(0, ["t"])
        self.store.run(lambda knot, held, got, ties: (None, ()))
        for wrong in (lambda: self.store.ask(None), lambda: self.store.ask(KIND, asker="A"), lambda: self.store.ask(KIND, moment=99),
                      lambda: self.store.showing(KIND, (99,))):
            self.assertNotEqual(outcome(wrong)[0], "told")
        self.assertEqual(self.store.mail(), mail)
        self.store.ask(KIND)
        self.assertEqual(self.store.mail()[0], (0, ("knots", 3, (), "a"), (0, 8)))

    def test_kept_answers_and_letting_go(self):
        self.store.keep("one", KIND, asker="ann")
        self.store.tell([("knot", 30, "a", ()), ("put", 0, "p", 9)])
        ahead = kept_told(self.store)
        self.assertEqual(ahead, {"one": ([(0,), (8,), (30,)], [(30,)], [], 2)})
        self.store.let_go(3)
        self.assertEqual(kept_told(self.store), ahead)
        self.store.tell([("drop", 30)])
        self.assertEqual(kept_told(self.store), {"one": ([(0,), (8,)], [], [(30,)], 3)})
        self.assertIsNone(self.store.forget(name="one"))
        self.assertEqual(self.store.names(), [])

    def test_a_house_once_told_goes_on_as_it_did(self):
        house = self.store.house(1)
        message = ("look", 2, (("name", "q"),), (1, 9, 15))
        told = house.answer(message)
        self.assertEqual(told, ((1, "a", (("p", 2),)), (15, "b", (("p", 1),))))
        self.store.tell([("put", 1, "p", 77), ("bar", "ann", ("one", 15))])
        self.store.let_go(3)
        self.store.move(1, 0)
        self.store.move_on()
        self.store.move_on()
        self.assertEqual(house.answer(message), told)
        self.assertEqual(house.answer(message=("knots", 1, (), "a")), (1,))
        self.assertEqual(self.store.house(0).answer(("look", 3, (), (1,))), ((1, "a", (("p", 77),)),))

    def test_papers(self):
        for asker in ("ann", None):
            web = self.store.web(asker=asker)
            for question in (KIND, PAIRS, NO):
                told = self.store.ask(question, asker=asker)
                tree = self.store.barring(question=question, asker=asker)
                self.assertIs(bars_more(web, question, told, tree), True)
                self.assertIs(bars_more(web, question, told[1:], tree), False)
                for asked in told:
                    paper = self.store.showing(question=question, asked=asked, asker=asker)
                    self.assertIs(shows(web, question, asked, paper), True)
                    for other in variants(paper, (None, True, 0, 1, 99, "x")):
                        if other != paper and shows(web, question, asked, other):
                            self.assertIs(self.shows_it(web, question, asked, other), True)

    def shows_it(self, web, question, asked, paper):
        """A paper that is otherwise and is let by shows the tuple, too, by other knots or ties."""
        second = Second(web)
        told = dict(paper[0])
        return tuple(told[name] for name in question[0]) == asked and all(second.holds(row, told) for row in question[1])

    def test_what_is_told_is_the_askers_own(self):
        self.store.keep("one", KIND)
        self.store.ask(KIND)
        self.store.tell([("knot", 30, "a", ()), ("bar", "ann", ("one", 0))])
        asks = (lambda: self.store.ask(PAIRS), self.store.mail, self.store.names, lambda: self.store.kept("one"), lambda: self.store.came("one"),
                lambda: self.store.went("one"), lambda: self.store.least(0, ["t"]), lambda: self.store.parts(["t"]))
        for ask in asks:
            ahead, told = copy.deepcopy(ask()), ask()
            told.clear()
            self.assertEqual(ask(), ahead)
        worths = self.store.web().worths(0)
        worths["p"] = 99
        self.assertEqual(self.store.web().worths(0)["p"], 1)
        web = self.store.web()
        self.assertIsNot(self.store.web(), web)
        for rows in vars(web).values():
            rows.clear()
        self.assertEqual(len(self.store.web()), 7)

    def test_what_was_told_stays(self):
        found, mail, web, reached = self.store.ask(PAIRS), self.store.mail(), self.store.web(), self.store.least(0, ["t"])
        ahead = copy.deepcopy((found, mail, show_web(web), reached))
        self.store.tell([("put", 0, "p", 9), ("cut", 1)])
        self.store.ask(KIND)
        self.store.let_go(3)
        self.assertEqual((found, mail, show_web(web), reached), ahead)

    def test_what_is_handed_in_stays_and_may_change_behind(self):
        batch, kinds, placing = [("knot", 40, "a", (("p", 1),))], ["t"], [0, 1, 2, 3, 4, 5, 0, 1]
        store = Store(Disk(), placing=placing)
        store.tell(batch)
        placing[0] = 5
        batch.append(("drop", 40))
        self.assertEqual((store.placing(), store.web().knots()), (SPREAD, [40]))
        store.least(40, kinds)
        store.parts(kinds)
        self.assertEqual((batch, kinds), ([("knot", 40, "a", (("p", 1),)), ("drop", 40)], ["t"]))

    def test_two_hundred_moments(self):
        for at in range(3, 206):
            self.assertEqual(self.store.tell([("put", 0, "p", at)]), at)
        self.assertEqual([self.store.web(moment=at).worths(0)["p"] for at in (3, 100, 205)], [3, 100, 205])
        self.store.move(0, 5)
        self.store.move_on()
        self.store.move_on()
        self.assertEqual(self.store.house(5).answer(("look", 77, (), (0,))), ((0, "a", (("p", 77), ("q", "b"))),))
        opened = Store(Disk(rows=self.store.disk.rows()))
        self.assertIs(opened == self.store, True)

    def test_a_full_web(self):
        store = Store(Disk(), placing=SPREAD)
        for at in range(0, 60, 20):
            store.tell([("knot", knot, "a", tuple((name, knot) for name in "abcdef")) for knot in range(at, at + 20)])
        for at in range(0, 120, 20):
            store.tell([("tie", tie, "t", tie % 60, tie * 7 % 60, 1000) for tie in range(at, at + 20)])
        for deed in (("knot", 60, "a", ()), ("tie", 120, "t", 0, 0, 1), ("put", 0, "g", 1)):
            self.assertEqual(outcome(store.tell, [deed]), (NoBatch, {"at": 0, "why": "many"}))
        self.assertEqual((len(store.web()), len(store.web().ties())), (60, 120))
        self.assertIs(Store(Disk(rows=store.disk.rows())) == store, True)


class Refused(unittest.TestCase):
    def setUp(self):
        self.store = begun()
        self.store.tell([("put", 0, "p", 9)])
        self.store.let_go(2)
        self.store.keep("one", KIND, asker="ann")
        self.store.ask(PAIRS)

    def told(self):
        store = self.store
        return (store.first(), store.last(), show_web(store.web()), store.bars("ann"), store.placing(), store.moving(),
                kept_told(store), store.mail(), store.crossed(), store.busy(), store.disk.steps())

    def assert_refused(self, error, ask, **fields):
        ahead = self.told()
        kind, found = outcome(ask)
        self.assertIs(kind, error)
        self.assertEqual(list(found), list(fields))
        for field, value in fields.items():
            self.assertIs(found[field], value)
        self.assertEqual(self.told(), ahead)

    def asks(self, question=KIND, asked=(0,), knot=0, **told):
        """All that is asked with an asker and a moment."""
        store = self.store
        yield from ((lambda: store.web(**told)), (lambda: store.least(knot, ["t"], **told)), (lambda: store.parts(["t"], **told)),
                    (lambda: store.run(lambda *call: (None, ()), **told)))
        yield from self.asks_with_a_question(question, asked, **told)

    def asks_with_a_question(self, question=KIND, asked=(0,), **told):
        store = self.store
        yield from ((lambda: store.ask(question, **told)), (lambda: store.showing(question, asked, **told)),
                    (lambda: store.barring(question, **told)))

    def test_askers(self):
        for asker in anything() + ["A", "abcdefghi", "ann ", ("ann",), ["ann"], b"ann"]:
            if asker is None or asker in ("a", "knot"):
                continue
            for ask in [*self.asks(asker=asker), *self.asks(asker=asker, moment=-1, asked=None, knot=None)]:
                self.assert_refused(BadName, ask, asked=asker)
            self.assert_refused(BadName, lambda: self.store.bars(asker), asked=asker)
            self.assert_refused(BadName, lambda: self.store.bars(asker, moment=1), asked=asker)

    def test_moments(self):
        for moment in [thing for thing in anything() if type(thing) is not int and thing is not None] + [-1, 4, 99]:
            for asker in ("ann", None):
                for ask in self.asks(asker=asker, moment=moment, asked=None, knot=None):
                    self.assert_refused(NoMoment, ask, asked=moment)
                self.assert_refused(NoMoment, lambda: self.store.bars(asker, moment=moment), asked=moment)
        for moment in anything():
            if type(moment) is not int or not 0 <= moment <= 3:
                self.assert_refused(NoMoment, lambda: self.store.let_go(moment), asked=moment)
        for moment in (0, 1):
            for ask in [*self.asks(moment=moment, asked=None, knot=None), lambda: self.store.bars(None, moment=moment)]:
                self.assert_refused(Gone, ask, begin=2)

    def test_questions(self):
        for question in anything() + [((), ()), ((), (("any", "x"), ("any",))), (("y",), (("any", "x"),))]:
            for told in ({}, {"asker": "A"}, {"moment": -1}, {"asker": "A", "moment": 0}):
                for ask in self.asks_with_a_question(question, None, **told):
                    self.assert_refused(NoQuestion, ask, at=verdict(question))

    def test_tuples_and_knots_come_last(self):
        for asked in anything() + [(1,), (2,), (True,), (False,), (0, 0), [0], (99,)]:
            if isinstance(asked, tuple) and len(asked) == 1 and type(asked[0]) is int and asked[0] in (0, 8):
                continue
            self.assert_refused(NoTuple, lambda: self.store.showing(KIND, asked, asker="ann"), asked=asked)
        for knot in anything() + [1, 99]:
            if type(knot) is int and knot in (0, 3):
                continue
            self.assert_refused(NoKnot, lambda: self.store.least(knot, (), asker="ann", moment=2), asked=knot)

    def test_kept(self):
        for name in anything() + ["A", "abcdefghi"]:
            if name in ("a", "knot"):
                continue
            self.assert_refused(BadName, lambda: self.store.keep(name, None, asker="A"), asked=name)
        self.assert_refused(Known, lambda: self.store.keep("one", None, asker="A"), name="one")
        self.assert_refused(NoQuestion, lambda: self.store.keep("two", ((), (None,)), asker="A"), at=0)
        for asker in ("A", "", 5, True, (), [], {}):
            self.assert_refused(BadName, lambda: self.store.keep("two", KIND, asker=asker), asked=asker)
        for name in anything() + ["two", "One"]:
            for ask in (self.store.forget, self.store.kept, self.store.came, self.store.went, self.store.searches):
                self.assert_refused(NoName, lambda: ask(name), name=name)

    def test_batches(self):
        for batch in anything():
            kind, told = outcome(Whole().tell, batch)
            if kind is NoBatch:
                self.assert_refused(NoBatch, lambda: self.store.tell(batch), **told)
        for batch, at, why in (([("knot", 0, "a", ())], 0, "taken"), ([("knot", 50, "a", ()), ("tie", 1, "t", 0, 0, 1)], 1, "taken"),
                               ([("put", 99, "p", 1)], 0, "knot"), ([("cut", 99)], 0, "tie"), ([("out", 3, "p")], 0, "worth"),
                               ([("drop", 0)], 0, "tied"), ([("bar", "ann", ("one", 1))], 0, "twice"), ([("free", "bob", ("one", 1))], 0, "free"),
                               ([("knot", 50, "a", tuple((name, 1) for name in "abcdefg"))], 0, "many")):
            self.assert_refused(NoBatch, lambda: self.store.tell(batch), at=at, why=why)

    def test_by_chance_as_a_whole_refuses(self):
        chance = random.Random(35)
        whole = Whole()
        store = Store(Disk(), placing=SPREAD)
        for one in (whole, store):
            one.tell(BEGIN)
        for _ in range(300):
            batch = [some_deed(chance, whole) for _ in range(chance.choice((1, 2, 5)))]
            self.assertEqual(outcome(store.tell, batch), outcome(whole.tell, batch))
        self.assertEqual(store.web(), whole.web())

    def test_by_name_alone(self):
        for ask in (lambda: self.store.web("ann"), lambda: self.store.bars("ann", 2), lambda: self.store.ask(KIND, "ann"),
                    lambda: self.store.showing(KIND, (0,), "ann"), lambda: self.store.keep("two", KIND, "ann"),
                    lambda: self.store.least(0, (), "ann"), lambda: self.store.parts((), "ann"), lambda: self.store.barring(KIND, "ann")):
            with self.assertRaises(TypeError):
                ask()


class Equality(unittest.TestCase):
    def assert_equal(self, one, other, told=True):
        for left_one, right_one in ((one, other), (other, one)):
            self.assertIs(left_one == right_one, told)
            self.assertIs(left_one != right_one, not told)

    def test_whatever_placing_kept_answers_and_disks(self):
        one, other = begun(SPREAD), begun((0,) * 8)
        self.assert_equal(one, other)
        one.keep("one", KIND)
        one.ask(KIND)
        one.move(0, 3)
        self.assert_equal(one, other)
        one.move_on()
        one.move_on()
        self.assert_equal(one, other)
        self.assert_equal(Store(Disk(rows=one.disk.rows())), other)
        self.assert_equal(Store(Disk()), Store(Disk(), placing=SPREAD))
        self.assert_equal(one, one)

    def test_alike_but_for_one_deed(self):
        for deed in (("tell", (("put", 0, "p", 5),)), ("tell", (("put", 0, "p", 1),)), ("tell", (("bar", "bob", ("one", 5)),)),
                     ("tell", (("knot", 30, "a", ()), ("drop", 30))), ("let_go", 1), ("let_go", 2)):
            one, other = begun(), begun()
            do(one, deed)
            self.assert_equal(one, other, False)
            do(other, deed)
            self.assert_equal(one, other)

    def test_webs_and_bars_of_all_kept_moments(self):
        last = [("put", 0, "p", 9), ("out", 0, "q")]
        for one_batch, other_batch in (([("put", 0, "p", 5)], [("put", 0, "p", 6)]), ([("bar", "bob", ("one", 5))], [("bar", "bob", ("one", 6))])):
            one, other = begun(), begun()
            one.tell(one_batch)
            other.tell(other_batch)
            for store, batch in ((one, one_batch), (other, other_batch)):
                store.tell(last + ([("free", "bob", batch[0][2])] if batch[0][0] == "bar" else []))
            self.assertEqual(one.web(), other.web())
            self.assert_equal(one, other, False)
            for store in (one, other):
                store.let_go(4)
            self.assert_equal(one, other)

    def test_bars_told_in_another_order(self):
        bars = [("bar", "ann", ("one", 5)), ("bar", "bob", ("one", 6))]
        one, other = begun(), begun()
        one.tell(bars)
        other.tell(bars[::-1])
        self.assert_equal(one, other)

    def test_things_of_other_kinds(self):
        store = Store(Disk())
        for thing in anything() + [Web(), Whole(), store.disk, store.house(0), object(), Store]:
            self.assert_equal(store, thing, False)


if __name__ == "__main__":
    unittest.main()
