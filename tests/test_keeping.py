"""Point 27: kept answers."""

import copy
import random
import unittest

from tests.asking import Second, some_answered, some_deed, some_question, verdict
from tests.samples import anything
from tests.test_differences import second as second_difference
from tests.test_rights import left
from websplit.errors import BadName, Known, NoBatch, NoName, NoQuestion
from websplit.keeping import Keeper
from websplit.webs import Web
from websplit.webtexts import show_web
from websplit.whole import Whole

BEGIN = (
    ("knot", 1, "a", (("p", 1), ("q", 1))), ("knot", 2, "a", (("p", 2),)), ("knot", 3, "b", (("p", 2),)),
    ("tie", 1, "t", 1, 2, 1), ("tie", 2, "u", 2, 3, 1),
)
KIND = (("x",), (("knot", "x", "a"),))
EVERY = (("x",), (("any", "x"),))
NAME = (("x",), (("knot", "x", "a"), ("holds", "x", "p", "more", 1)))
TIE = (("x", "y"), (("tie", "x", "t", "y"),))
WAY = (("x", "y"), (("way", "x", "t", "y", 3),))
NO = (("x",), (("knot", "x", "a"), ("no", (("tie", "x", "t", "y"), ("knot", "y", "b"), ("holds", "y", "q", "same", 1)))))


def begun():
    whole = Whole()
    whole.tell(BEGIN)
    return whole, Keeper(whole)


def told_of(keeper):
    """All that a keeper tells."""
    return {name: (keeper.kept(name), keeper.came(name), keeper.went(name), keeper.searches(name)) for name in keeper.names()}


class Model:
    """A second keeper: it searches anew behind each batch, and counts by a second difference."""

    def __init__(self, whole):
        self.whole, self.rows = whole, {}

    def seen(self, asker):
        return Web(*left(self.whole.web(), self.whole.bars(asker)))

    def keep(self, name, question, asker):
        web = self.seen(asker)
        self.rows[name] = [question, asker, web, Second(web).answer(question), [], [], 1]

    def batch_was_told(self):
        for row in self.rows.values():
            question, asker, ahead, found, _, _, times = row
            web = self.seen(asker)
            now = Second(web).answer(question)
            came, went = [sorted(set(one) - set(other)) for one, other in ((now, found), (found, now))]
            row[2:] = [web, now, came, went, times + self.is_otherwise(question, ahead, web)]

    def is_otherwise(self, question, ahead, behind):
        rows = [inner for row in question[1] for inner in (row[1] if row[0] == "no" else [row])]
        knots, worths, ties = second_difference(ahead, behind)
        kinds = {web.kind(knot) for web in (ahead, behind) for knot in knots if knot in web.knots()}
        tie_kinds = {web.tie(tie)[0] for web in (ahead, behind) for tie in ties if tie in web.ties()}
        return any(row[0] == "knot" and row[2] in kinds or row[0] == "any" and bool(knots)
                   or row[0] == "holds" and row[2] in {name for _, name in worths}
                   or row[0] in ("tie", "way") and row[2] in tie_kinds for row in rows)

    def told(self):
        return {name: tuple(self.rows[name][3:]) for name in sorted(self.rows)}


class Histories(unittest.TestCase):
    def test_behind_each_of_many_turns(self):
        counts = {"more": 0, "same": 0, "came": 0, "went": 0, "refused": 0}
        for seed in range(30):
            self.go_through(random.Random(seed), counts)
        self.assertGreater(min(counts.values()), 100, counts)

    def go_through(self, chance, counts):
        whole, keeper = begun()
        model = Model(whole)
        for turn in range(60):
            word = chance.choice(("keep", "keep", "forget", "let go") + ("batch",) * 8)
            name = chance.choice("abcdef")
            if word == "keep" and name not in model.rows:
                asker = chance.choice(("ann", "bob", "cat", None))
                question = some_answered(chance, model.seen(asker), variables=3)
                self.assertIsNone(keeper.keep(name, question, asker=asker))
                model.keep(name, question, asker)
            elif word == "forget" and name in model.rows:
                self.assertIsNone(keeper.forget(name))
                del model.rows[name]
            elif word == "let go":
                whole.let_go(chance.randint(0, whole.last()))
            elif word == "batch":
                ahead = model.told()
                self.tell(chance, whole, keeper, model, counts)
                for name, row in model.told().items():
                    counts["more" if row[3] > ahead[name][3] else "same"] += 1
                    counts["came"] += bool(row[1])
                    counts["went"] += bool(row[2])
            self.assertEqual(told_of(keeper), model.told())
            self.assertEqual(keeper.names(), sorted(model.rows))

    def tell(self, chance, whole, keeper, model, counts):
        batch = [some_deed(chance, whole) for _ in range(chance.choice((1, 1, 2, 3)))]
        last = whole.last()
        try:
            moment = keeper.tell(batch)
        except NoBatch:
            self.assertEqual(whole.last(), last)
            counts["refused"] += 1
            return
        self.assertEqual((moment, whole.last()), (last + 1, last + 1))
        model.batch_was_told()


class Kept(unittest.TestCase):
    def setUp(self):
        self.whole, self.keeper = begun()

    def assert_told(self, name, kept, came, went, searches):
        told = (self.keeper.kept(name), self.keeper.came(name), self.keeper.went(name), self.keeper.searches(name))
        self.assertEqual(told, (kept, came, went, searches))

    def test_an_answer_follows_the_web(self):
        self.keeper.keep("one", KIND)
        self.assert_told("one", [(1,), (2,)], [], [], 1)
        self.assertEqual(self.keeper.tell([("knot", 9, "a", ()), ("knot", 10, "a", ())]), 2)
        self.assert_told("one", [(1,), (2,), (9,), (10,)], [(9,), (10,)], [], 2)
        self.assertEqual(self.keeper.tell([("drop", 9), ("knot", 0, "a", ())]), 3)
        self.assert_told("one", [(0,), (1,), (2,), (10,)], [(0,)], [(9,)], 3)
        self.keeper.tell([("put", 1, "p", 7)])
        self.assert_told("one", [(0,), (1,), (2,), (10,)], [], [], 3)

    def test_names_rise(self):
        for name in ("b", "abcdefgh", "a", "z"):
            self.assertIsNone(self.keeper.keep(name, KIND))
        self.assertEqual(self.keeper.names(), ["a", "abcdefgh", "b", "z"])
        self.assertEqual(Keeper(Whole()).names(), [])

    def test_what_was_kept_behind_the_last_batch(self):
        self.keeper.tell([("knot", 9, "a", ())])
        self.keeper.keep("one", KIND)
        self.assert_told("one", [(1,), (2,), (9,)], [], [], 1)
        self.keeper.tell([("drop", 9)])
        self.assert_told("one", [(1,), (2,)], [], [(9,)], 2)

    def test_what_came_and_went_stays_till_the_next_batch(self):
        self.keeper.keep("one", KIND)
        self.keeper.tell([("knot", 9, "a", ())])
        self.keeper.keep("two", KIND)
        with self.assertRaises(NoBatch):
            self.keeper.tell([("drop", 9), ("drop", 9)])
        self.keeper.forget("two")
        self.whole.let_go(2)
        self.assert_told("one", [(1,), (2,), (9,)], [(9,)], [], 2)
        self.keeper.tell([("bar", "zed", ("one", 9))])
        self.assert_told("one", [(1,), (2,), (9,)], [], [], 2)

    def test_forgotten_and_kept_again(self):
        self.keeper.keep("one", KIND)
        self.keeper.tell([("knot", 9, "a", ())])
        self.assertIsNone(self.keeper.forget("one"))
        self.assertEqual(self.keeper.names(), [])
        with self.assertRaises(NoName):
            self.keeper.kept("one")
        self.keeper.keep("one", TIE)
        self.assert_told("one", [(1, 2)], [], [], 1)

    def test_an_asker_sees_what_the_bars_leave(self):
        self.keeper.keep("ann", KIND, asker="ann")
        self.keeper.keep("owner", KIND, asker=None)
        self.keeper.tell([("bar", "ann", ("one", 1))])
        self.assert_told("ann", [(2,)], [], [(1,)], 2)
        self.assert_told("owner", [(1,), (2,)], [], [], 1)
        self.keeper.keep("later", KIND, asker="ann")
        self.assert_told("later", [(2,)], [], [], 1)
        self.keeper.tell([("free", "ann", ("one", 1))])
        self.assert_told("ann", [(1,), (2,)], [(1,)], [], 3)
        self.assert_told("later", [(1,), (2,)], [(1,)], [], 2)
        self.assert_told("owner", [(1,), (2,)], [], [], 1)

    def test_by_place_and_by_name(self):
        self.assertIsNone(self.keeper.keep(name="one", question=KIND, asker="ann"))
        self.assertEqual((self.keeper.kept(name="one"), self.keeper.came(name="one"), self.keeper.went(name="one")),
                         ([(1,), (2,)], [], []))
        self.assertEqual((self.keeper.searches(name="one"), self.keeper.tell(batch=(("knot", 9, "b", ()),))), (1, 2))
        self.assertIsNone(self.keeper.forget(name="one"))
        self.assertEqual(Keeper(whole=self.whole).names(), [])
        with self.assertRaises(TypeError):
            self.keeper.keep("one", KIND, "ann")

    def test_lists_are_the_askers_own(self):
        self.keeper.keep("one", KIND)
        self.keeper.tell([("knot", 9, "a", ()), ("bar", "ann", ("one", 1))])
        for ask in (self.keeper.kept, self.keeper.came, self.keeper.went):
            ahead = list(ask("one"))
            told = ask("one")
            told.append((77,))
            told.insert(0, (76,))
            self.assertEqual(ask("one"), ahead)
        self.keeper.names().clear()
        self.assertEqual(self.keeper.names(), ["one"])
        told = self.keeper.kept("one")
        self.keeper.tell([("drop", 9)])
        self.assertEqual(told, [(1,), (2,), (9,)])
        self.assert_told("one", [(1,), (2,)], [], [(9,)], 3)

    def test_letting_go_changes_nothing(self):
        self.keeper.keep("one", KIND, asker="ann")
        self.keeper.tell([("knot", 9, "a", ())])
        ahead = told_of(self.keeper)
        self.whole.let_go(2)
        self.assertEqual(told_of(self.keeper), ahead)
        self.keeper.tell([("drop", 9)])
        self.assert_told("one", [(1,), (2,)], [], [(9,)], 3)

    def test_two_keepers(self):
        other = Keeper(Whole())
        self.keeper.keep("one", KIND)
        self.assertEqual((other.names(), self.keeper.names()), ([], ["one"]))


class Searches(unittest.TestCase):
    """Searched anew is just what is otherwise in what the question names."""

    def assert_searched(self, question, batch, more, asker=None, ahead=()):
        whole, keeper = begun()
        if ahead:
            whole.tell(ahead)
        keeper.keep("one", question, asker=asker)
        model = Model(whole)
        model.keep("one", question, asker)
        keeper.tell(batch)
        model.batch_was_told()
        self.assertEqual(keeper.searches("one"), 1 + more, (question, batch))
        self.assertEqual(told_of(keeper), model.told())

    def test_knots(self):
        for question, more in ((KIND, (1, 0)), (EVERY, (1, 1)), (NAME, (1, 0)), (TIE, (0, 0)), (WAY, (0, 0)), (NO, (1, 1))):
            for kind, times in zip("ab", more):
                self.assert_searched(question, [("knot", 9, kind, (("p", 1),))], times)
                self.assert_searched(question, [("drop", 9)], times, ahead=[("knot", 9, kind, (("q", 1),))])
                self.assert_searched(question, [("knot", 9, kind, ()), ("drop", 9)], 0)

    def test_worths(self):
        for question, names in ((KIND, ""), (EVERY, ""), (TIE, ""), (WAY, ""), (NAME, "p"), (NO, "q")):
            for knot in (1, 2, 3):
                for name in "pq":
                    self.assert_searched(question, [("put", knot, name, 9)], name in names)
                    self.assert_searched(question, [("put", knot, name, 9), ("out", knot, name)],
                                         name in names and (name == "p" or knot == 1))
            self.assert_searched(question, [("put", 1, "p", 1)], 0)
            self.assert_searched(question, [("put", 1, "p", 2), ("put", 1, "p", 1)], 0)

    def test_ties(self):
        for question, kinds in ((KIND, ""), (EVERY, ""), (NAME, ""), (TIE, "t"), (WAY, "t"), (NO, "t")):
            for kind in "tu":
                self.assert_searched(question, [("tie", 9, kind, 1, 3, 1)], kind in kinds)
                self.assert_searched(question, [("cut", 1 if kind == "t" else 2)], kind in kinds)
                self.assert_searched(question, [("tie", 9, kind, 1, 3, 1), ("cut", 9)], 0)
            self.assert_searched(question, [("cut", 1), ("tie", 9, "t", 1, 2, 1)], "t" in kinds)

    def test_bars(self):
        for asker, seen_otherwise in (("ann", 1), ("bob", 0), (None, 0)):
            for question, bar in ((KIND, ("one", 1)), (KIND, ("kind", "a")), (KIND, ("holding", "p", 2)), (EVERY, ("one", 3)),
                                  (NAME, ("name", "p")), (TIE, ("ties", "t")), (TIE, ("one", 2)), (WAY, ("kind", "a"))):
                self.assert_searched(question, [("bar", "ann", bar)], seen_otherwise, asker=asker)
                self.assert_searched(question, [("free", "ann", bar)], seen_otherwise, asker=asker, ahead=[("bar", "ann", bar)])
                self.assert_searched(question, [("bar", "ann", bar), ("free", "ann", bar)], 0, asker=asker)
            for question, bar in ((KIND, ("one", 3)), (KIND, ("one", 500)), (KIND, ("name", "p")), (EVERY, ("name", "p")),
                                  (TIE, ("ties", "u")), (TIE, ("one", 3)), (NAME, ("name", "q")), (KIND, ("ties", "t"))):
                self.assert_searched(question, [("bar", "ann", bar)], 0, asker=asker)

    def test_what_is_barred_is_not_seen_to_change(self):
        for bar, batch, question in ((("one", 1), [("put", 1, "p", 9)], NAME), (("kind", "a"), [("knot", 9, "a", ())], KIND),
                                     (("name", "p"), [("put", 1, "p", 9)], NAME), (("ties", "t"), [("cut", 1)], TIE),
                                     (("one", 9), [("knot", 9, "a", ())], EVERY), (("one", 1), [("cut", 1)], WAY)):
            self.assert_searched(question, batch, 0, asker="ann", ahead=[("bar", "ann", bar)])
            self.assert_searched(question, batch, 1, asker="bob", ahead=[("bar", "ann", bar)])

    def test_a_worth_that_shows_or_hides_its_knot(self):
        bar = [("bar", "ann", ("holding", "q", 9))]
        self.assert_searched(KIND, [("put", 1, "q", 9)], 1, asker="ann", ahead=bar)
        self.assert_searched(KIND, [("put", 1, "q", 9)], 0, asker="bob", ahead=bar)
        self.assert_searched(KIND, [("out", 1, "q")], 1, asker="ann", ahead=bar + [("put", 1, "q", 9)])

    def test_once_by_a_batch(self):
        self.assert_searched(NAME, [("knot", 8, "a", ()), ("knot", 9, "a", ()), ("put", 1, "p", 9), ("put", 2, "p", 9)], 1)

    def test_each_sort_within_no(self):
        for row, batch in ((("any", "y"), [("knot", 9, "b", ())]), (("knot", "y", "b"), [("knot", 9, "b", ())]),
                           (("way", "x", "u", "y", 2), [("cut", 2)])):
            self.assert_searched((("x",), (("knot", "x", "a"), ("no", (row,)))), batch, 1)


class Refused(unittest.TestCase):
    def setUp(self):
        self.whole, self.keeper = begun()
        self.keeper.keep("one", KIND, asker="ann")
        self.keeper.tell([("knot", 9, "a", ())])

    def assert_refused(self, error, ask, **fields):
        ahead = told_of(self.keeper), show_web(self.whole.web()), self.whole.last(), copy.deepcopy(fields)
        with self.assertRaises(error) as caught:
            ask()
        self.assertIs(type(caught.exception), error)
        for field, value in fields.items():
            self.assertIs(getattr(caught.exception, field), value)
        self.assertEqual((told_of(self.keeper), show_web(self.whole.web()), self.whole.last(), fields), ahead)

    def test_what_is_no_name(self):
        for name in anything() + ["A", "abcdefghi", "one ", b"one", "a1", ["one"]]:
            if name in ("a", "knot"):
                continue
            self.assert_refused(BadName, lambda: self.keeper.keep(name, KIND), asked=name)

    def test_known(self):
        self.assert_refused(Known, lambda: self.keeper.keep("one", KIND), name="one")
        self.assert_refused(Known, lambda: self.keeper.keep("one", TIE, asker="bob"), name="one")

    def test_no_question(self):
        for question in anything() + [((), ()), ((), (("any", "x"), ("any",))), (("y",), (("any", "x"),))]:
            self.assert_refused(NoQuestion, lambda: self.keeper.keep("two", question), at=verdict(question))

    def test_what_is_no_asker(self):
        for asker in anything() + ["A", "abcdefghi", ("ann",), ["ann"]]:
            if asker is None or asker in ("a", "knot"):
                continue
            self.assert_refused(BadName, lambda: self.keeper.keep("two", KIND, asker=asker), asked=asker)

    def test_the_first_goes(self):
        self.assert_refused(BadName, lambda: self.keeper.keep("A", None, asker="B"), asked="A")
        self.assert_refused(BadName, lambda: self.keeper.keep("A", KIND, asker="B"), asked="A")
        self.assert_refused(Known, lambda: self.keeper.keep("one", None, asker="B"), name="one")
        self.assert_refused(Known, lambda: self.keeper.keep("one", KIND, asker="B"), name="one")
        self.assert_refused(NoQuestion, lambda: self.keeper.keep("two", ((), (None,)), asker="B"), at=0)
        self.assert_refused(BadName, lambda: self.keeper.keep("two", KIND, asker="B"), asked="B")

    def test_whatever_is_asked_by_name(self):
        for name in anything() + ["two", "on", "onee", ["one"], ("one",), b"one"]:
            for ask in (self.keeper.forget, self.keeper.kept, self.keeper.came, self.keeper.went, self.keeper.searches):
                self.assert_refused(NoName, lambda: ask(name), name=name)

    def test_batches_are_refused_as_the_whole_refuses_them(self):
        for batch, at, why in ((None, None, "form"), ([], None, "form"), ([("knot", 9, "a", ())], 0, "taken"),
                               ([("knot", 10, "a", ()), ("cut", 9)], 1, "tie"), ([("free", "ann", ("one", 1))], 0, "free")):
            self.assert_refused(NoBatch, lambda: self.keeper.tell(batch), at=at, why=why)
        self.assertEqual(self.keeper.tell([("knot", 10, "a", ())]), 3)
        self.assertEqual((self.keeper.kept("one"), self.keeper.came("one")), ([(1,), (2,), (9,), (10,)], [(10,)]))

    def test_questions_that_are_none_by_chance(self):
        chance = random.Random(27)
        for at in range(60):
            shown, rows = some_question(chance)
            self.assert_refused(NoQuestion, lambda: self.keeper.keep("two", (shown, rows + (("any",),))), at=len(rows))


if __name__ == "__main__":
    unittest.main()
