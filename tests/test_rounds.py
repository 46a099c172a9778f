"""Point 33: runs by rounds."""

import random
import unittest

from tests.asking import rows_of, some_bar, some_web
from tests.samples import anything
from tests.storing import BEGIN, KIND, PAIRS, SPREAD, begun, kept_told, outcome, snap, some_placing
from websplit.bounds import MOST_ROUNDS
from websplit.disks import Disk
from websplit.errors import BadName, Busy, Fell, Gone, NoMoment, NoTie, TooLong
from websplit.store import Store
from websplit.webs import Web
from websplit.webtexts import read_web


def store_of(web, placing=SPREAD):
    """A store with a web, told by batches of twenty."""
    store = Store(Disk(), placing=placing)
    knots, ties = rows_of(web)
    deeds = [("knot", number, kind, tuple(worths.items())) for number, kind, worths in knots] + [("tie", *row) for row in ties]
    for at in range(0, len(deeds), 20):
        store.tell(deeds[at:at + 20])
    return store


class Second:
    """A second run: all that is sent stands in one list, (round, from, to, tie, thing)."""

    def __init__(self, web, placing, step, most):
        self.rows = rows_of(web)[1]
        self.held = {knot: None for knot in web.knots()}
        self.calls, sent = [], []
        called = sorted(self.held)
        for turn in range(most):
            for knot in called:
                got = [(tie, thing) for when, _, to, tie, thing in sent if (when, to) == (turn - 1, knot)]
                got = tuple(pair for number in sorted({pair[0] for pair in got}) for pair in got if pair[0] == number)
                told = (knot, self.held[knot], got, self.ties(knot))
                self.calls.append(told)
                self.held[knot], sends = step(*told)
                for tie, thing in sends:
                    sent.append((turn, knot, self.far(knot, tie), tie, thing))
            called = sorted({row[2] for row in sent if row[0] == turn})
        self.is_too_long = bool(called)
        self.crossed = sum(placing[row[1] % 8] != placing[row[2] % 8] for row in sent)

    def ties(self, knot):
        outs = [(tie, kind, end, weight, True) for tie, kind, start, end, weight in self.rows if start == knot]
        ins = [(tie, kind, start, weight, False) for tie, kind, start, end, weight in self.rows if end == knot != start]
        return tuple(sorted(outs + ins))

    def far(self, knot, tie):
        return next(end if start == knot else start for number, _, start, end, _ in self.rows if number == tie)


def some_step(seed, lives):
    """A def that sends things by chance, the same for the same calls, until they have gone so far."""
    def step(knot, held, got, ties):
        chance = random.Random(repr((seed, knot, held, got, ties)))
        life = min([lives] + [0 if thing is None else thing[0] - 1 for _, thing in got])
        sends = []
        for _ in range(chance.choice((0, 1, 2, 3)) if life > 0 and ties else 0):
            tie = chance.choice(ties)[0]
            sends += chance.choice(([(tie, (life, chance.randrange(9)))], [(tie, (life, "x")), (tie, None)]))
        return chance.choice((None, knot, len(got), (knot, held is None or "b", "c")[::2])), tuple(sends)

    return step


class Recorder:
    """A def that notes its calls."""

    def __init__(self, step):
        self.step, self.calls = step, []

    def __call__(self, *told, **named):
        self.calls.append((*told, *named))
        return self.step(*told)


LINE = read_web("""knot 1 a
knot 2 a
knot 3 a
knot 9 b
tie 10 t 1 2 5
tie 11 u 3 2 6
tie 12 t 2 2 7
tie 13 t 1 2 8""")


class Calls(unittest.TestCase):
    def test_what_the_def_is_handed(self):
        step = Recorder(lambda knot, held, got, ties: (knot, ((13, "a"), (10, "b"), (13, "c"), (13, None)) if knot == 1 and not got else ()))
        store = store_of(LINE)
        self.assertEqual(store.run(step), {1: 1, 2: 2, 3: 3, 9: 9})
        two = ((10, "t", 1, 5, False), (11, "u", 3, 6, False), (12, "t", 2, 7, True), (13, "t", 1, 8, False))
        self.assertEqual(step.calls, [
            (1, None, (), ((10, "t", 2, 5, True), (13, "t", 2, 8, True))),
            (2, None, (), two),
            (3, None, (), ((11, "u", 2, 6, True),)),
            (9, None, (), ()),
            (2, 2, ((10, "b"), (13, "a"), (13, "c"), (13, None)), two)])

    def test_along_ties_in_either_way(self):
        def step(knot, held, got, ties):
            if not got:
                return "first", tuple((row[0], knot) for row in ties if knot == 2)
            return got, ()

        self.assertEqual(store_of(LINE).run(step), {
            1: ((10, 2), (13, 2)), 2: ((12, 2),), 3: ((11, 2),), 9: "first"})

    def test_a_tie_from_a_knot_to_itself(self):
        step = Recorder(lambda knot, held, got, ties: (got, ((12, "a"), (12, "b")) if knot == 2 and not got else ()))
        store = store_of(LINE)
        self.assertEqual(store.run(step)[2], ((12, "a"), (12, "b")))
        self.assertEqual([call[0] for call in step.calls], [1, 2, 3, 9, 2])
        self.assertEqual(step.calls[1][3][2], (12, "t", 2, 7, True))
        self.assertEqual(store.crossed(), 0)

    def test_to_whom_nothing_comes_holds_what_it_held(self):
        def step(knot, held, got, ties):
            if not got:
                return (knot, "held"), ((10, 1),) if knot == 1 else ()
            return None, ()

        self.assertEqual(store_of(LINE).run(step), {1: (1, "held"), 2: None, 3: (3, "held"), 9: (9, "held")})

    def test_none_is_held_and_sent(self):
        step = Recorder(lambda knot, held, got, ties: (None, ((10, None),) if knot == 1 and not got else ()))
        self.assertEqual(store_of(LINE).run(step), {1: None, 2: None, 3: None, 9: None})
        self.assertEqual(step.calls[4][:3], (2, None, ((10, None),)))

    def test_of_the_empty_web(self):
        step = Recorder(None)
        self.assertEqual((Store(Disk()).run(step), step.calls), ({}, []))
        self.assertEqual((begun().run(step, moment=0, most=1), step.calls), ({}, []))

    def test_for_askers_and_moments(self):
        store = begun()
        store.tell([("knot", 20, "a", ()), ("tie", 20, "t", 0, 20, 9), ("bar", "bob", ("ties", "u"))])
        for asker in ("ann", "bob", "zed", None):
            for moment in (0, 1, 2, 3, None):
                step = Recorder(some_step(7, 3))
                web = store.web(asker=asker, moment=moment)
                told = store.run(step, asker=asker, moment=moment)
                second = Second(web, SPREAD, some_step(7, 3), 100)
                self.assertEqual((told, step.calls, store.crossed()), (second.held, second.calls, second.crossed))
                self.assertEqual(sorted(told), web.knots())

    def test_beside_a_second_run_over_any_placing(self):
        chance = random.Random(33)
        crossed = rounds = 0
        for seed in range(120):
            web = some_web(chance, knots=8, ties=14)
            bars = [some_bar(chance) for _ in range(chance.choice((0, 1, 3)))]
            told = []
            for placing in ((0,) * 8, SPREAD, some_placing(chance)):
                store = store_of(web, placing)
                if bars:
                    outcome(store.tell, [("bar", "ann", bar) for bar in sorted(set(bars), key=repr)])
                step = Recorder(some_step(seed, 4))
                held = store.run(step, asker="ann")
                second = Second(store.web(asker="ann"), placing, some_step(seed, 4), MOST_ROUNDS)
                self.assertEqual((held, step.calls, store.crossed()), (second.held, second.calls, second.crossed))
                told.append((held, step.calls))
                crossed += store.crossed()
                rounds += len(step.calls) > 2 * len(held)
            self.assertEqual(told[0], told[1])
            self.assertEqual(told[0], told[2])
        self.assertGreater(crossed, 300)
        self.assertGreater(rounds, 20)

    def test_the_dict_is_the_askers_own(self):
        store = store_of(LINE)
        step = some_step(1, 2)
        told = store.run(step)
        ahead = dict(told)
        told.clear()
        self.assertEqual(store.run(step), ahead)

    def test_by_place_and_by_name(self):
        store = begun()
        step = some_step(3, 2)
        self.assertEqual(store.run(step=step, asker="ann", moment=1, most=50), store.run(step, most=50, moment=1, asker="ann"))
        with self.assertRaises(TypeError):
            store.run(step, "ann")


class Ends(unittest.TestCase):
    def counting(self, rounds):
        """A def that sends in all but the last of so many rounds."""
        def step(knot, held, got, ties):
            turn = got[0][1] if got else 1
            return turn, ((12, turn + 1),) if knot == 2 and turn < rounds else ()

        return step

    def test_too_long_just_where_something_is_sent_still(self):
        store = store_of(LINE)
        for rounds in (1, 2, 3, 7):
            for most in (1, 2, 3, 4, 7, 8, 100):
                if rounds <= most:
                    self.assertEqual(store.run(self.counting(rounds), most=most)[2], rounds)
                    continue
                step = Recorder(self.counting(rounds))
                with self.assertRaises(TooLong) as caught:
                    store.run(step, most=most)
                self.assertEqual(caught.exception.most, most)
                self.assertEqual(len(step.calls), 4 + most - 1)
                self.assertIs(store.busy(), False)

    def test_a_hundred_rounds_where_most_is_left_out(self):
        store = store_of(LINE)
        self.assertEqual(store.run(self.counting(100))[2], 100)
        with self.assertRaises(TooLong) as caught:
            store.run(self.counting(101))
        self.assertEqual(caught.exception.most, 100)
        self.assertEqual(store.run(self.counting(101), most=101)[2], 101)

    def test_no_tie_of_the_knots(self):
        store = store_of(LINE)
        wrong = [thing for thing in anything() if type(thing) is not int] + [0, 1, -10, 14, 999, 1000, "t", (10,), [10]]
        for asked in wrong + [10, 12, 13]:
            for ahead in ((), ((11, "a"),), ((11, "a"), (11, "b"))):
                step = Recorder(lambda knot, held, got, ties: (knot, ahead + ((asked, "x"), ("late", 0)) if knot == 3 else ()))
                with self.assertRaises(NoTie) as caught:
                    store.run(step)
                self.assertIs(caught.exception.asked, asked)
                self.assertEqual([call[0] for call in step.calls], [1, 2, 3])
                self.assertIs(store.busy(), False)

    def test_a_truth_is_no_tie(self):
        store = store_of(Web([(0, "a", {})], [(0, "t", 0, 0, 1), (1, "t", 0, 0, 1)]))
        for asked in (True, False):
            with self.assertRaises(NoTie) as caught:
                store.run(lambda knot, held, got, ties: (None, () if got else ((asked, 1),)))
            self.assertIs(caught.exception.asked, asked)

    def test_a_barred_tie_is_none(self):
        store = begun()
        step = lambda knot, held, got, ties: (None, ((1, "x"),) if knot == 0 and not got else ())
        store.run(step, asker="bob")
        with self.assertRaises(NoTie) as caught:
            store.run(step, asker="ann")
        self.assertEqual(caught.exception.asked, 1)

    def test_in_a_later_round(self):
        store = store_of(LINE)
        step = lambda knot, held, got, ties: (None, ((11, 1),) if knot == 2 else ((10, 1),) if got else ())
        with self.assertRaises(NoTie) as caught:
            store.run(step)
        self.assertEqual(caught.exception.asked, 10)

    def test_what_the_def_raises_goes_through(self):
        store = store_of(LINE)
        for error in (ValueError("a"), KeyError("b"), StopIteration(), NoTie(5), Busy(), Fell(3), TooLong(1), ZeroDivisionError(), KeyboardInterrupt()):
            for where in (1, 3):
                def step(knot, held, got, ties):
                    if knot == where:
                        raise error
                    return None, ((10, 1),) if knot == 1 else ()

                with self.assertRaises(type(error)) as caught:
                    store.run(step)
                self.assertIs(caught.exception, error)
                self.assertIs(store.busy(), False)
                self.assertEqual(store.last(), 1)


class Crossed(unittest.TestCase):
    def step(self, sends):
        return lambda knot, held, got, ties: (None, () if got else tuple(sends.get(knot, ())))

    def test_of_runs_that_came_to_their_end(self):
        store = store_of(LINE, (0, 0, 1, 1, 0, 0, 0, 0))
        self.assertEqual(store.crossed(), 0)
        store.run(self.step({1: [(10, "a"), (13, "b")], 2: [(10, "c"), (11, "d"), (12, "e")], 3: [(11, "f")]}))
        self.assertEqual(store.crossed(), 3)
        with self.assertRaises(TooLong):
            store.run(lambda knot, held, got, ties: (None, ((12, 1),) if knot == 2 else ()), most=3)
        with self.assertRaises(NoTie):
            store.run(self.step({1: [(10, "a")], 2: [(99, "a")]}))
        with self.assertRaises(ZeroDivisionError):
            store.run(lambda knot, held, got, ties: (1 // 0, ()))
        with self.assertRaises(BadName):
            store.run(self.step({}), asker="A")
        store.ask(PAIRS)
        store.least(1, ["t"])
        store.parts(["t"])
        self.assertEqual(store.crossed(), 3)
        store.run(self.step({}))
        self.assertEqual(store.crossed(), 0)

    def test_by_the_placing_as_it_is(self):
        store = store_of(LINE, (0,) * 8)
        step = self.step({1: [(10, "a")]})
        for deed, told in ((lambda: None, 0), (lambda: store.move(1, 5), 0), (store.move_on, 0), (store.move_on, 1),
                           (lambda: store.move(2, 5), 1), (store.move_on, 1), (store.move_on, 0)):
            deed()
            store.run(step)
            self.assertEqual(store.crossed(), told)

    def test_several_rounds_count(self):
        store = store_of(LINE, (0, 1, 2, 3, 4, 5, 0, 1))
        def step(knot, held, got, ties):
            return None, tuple((10, thing - 1) for _, thing in got if thing) if got else ((10, 3),) if knot == 1 else ()
        store.run(step)
        self.assertEqual(store.crossed(), 4)

    def test_opened_again_nothing_crossed(self):
        disk = Disk()
        store = begun(disk=disk)
        store.run(self.step({0: [(1, "a")]}))
        self.assertEqual(store.crossed(), 1)
        self.assertEqual(Store(Disk(rows=disk.rows())).crossed(), 0)


class Refused(unittest.TestCase):
    def test_askers_then_moments(self):
        store = begun()
        store.tell([("put", 0, "p", 9)])
        store.let_go(2)
        step = Recorder(None)
        for asker in anything() + ["A", "abcdefghi"]:
            if asker is None or asker in ("a", "knot"):
                continue
            with self.assertRaises(BadName) as caught:
                store.run(step, asker=asker, moment=-1)
            self.assertIs(caught.exception.asked, asker)
        for moment in (-1, 4, True, "a", (), [], {}):
            with self.assertRaises(NoMoment) as caught:
                store.run(step, asker="ann", moment=moment)
            self.assertIs(caught.exception.asked, moment)
        with self.assertRaises(Gone) as caught:
            store.run(step, moment=1)
        self.assertEqual(caught.exception.begin, 2)
        self.assertEqual((step.calls, store.busy(), store.crossed()), ([], False, 0))


class IsBusy(unittest.TestCase):
    """Within the def each deed and ask is refused with Busy, ahead of all else."""

    def deeds(self, store):
        step = lambda *told: (None, ())
        yield from (
            lambda: store.tell([("knot", 30, "a", ())]), lambda: store.tell(None), store.last, store.first,
            lambda: store.bars("ann"), lambda: store.bars(5), lambda: store.let_go(1), lambda: store.let_go(None), store.web,
            lambda: store.web(asker=5, moment=-1), lambda: store.ask(KIND), lambda: store.ask(None), store.mail,
            lambda: store.showing(KIND, (0,)), lambda: store.showing(None, None, asker=5), lambda: store.barring(KIND),
            lambda: store.barring(None), lambda: store.keep("b", KIND), lambda: store.keep("B", None), lambda: store.forget("a"),
            lambda: store.forget("z"), store.names, lambda: store.kept("a"), lambda: store.kept("z"), lambda: store.came("a"),
            lambda: store.went("a"), lambda: store.searches("a"), store.placing, lambda: store.house(0), lambda: store.house(9),
            lambda: store.move(0, 5), lambda: store.move(9, 9), store.move_on, store.move_back, store.moving,
            lambda: store.run(step), lambda: store.run(step, asker=5, moment=-1), store.crossed,
            lambda: store.least(0, ["t"]), lambda: store.least(99, ["t"]), lambda: store.parts(["t"]))

    def test_each_deed_and_ask(self):
        disk = Disk()
        store = begun(disk=disk)
        store.keep("a", KIND)
        store.ask(PAIRS, asker="ann")
        ahead = snap(store), kept_told(store), store.mail(), store.crossed(), disk.steps()
        seen = []

        def step(knot, held, got, ties):
            for deed in self.deeds(store):
                seen.append(outcome(deed))
            seen.append(store.busy())
            return knot, ()

        self.assertIs(store.busy(), False)
        for asker in (None, "ann"):
            told = store.run(step, asker=asker)
            self.assertEqual(told, {knot: knot for knot in store.web(asker=asker).knots()})
            self.assertIs(store.busy(), False)
        self.assertEqual([thing for thing in seen if thing not in ((Busy, {}), True)], [])
        self.assertEqual(len(seen), (len(list(self.deeds(store))) + 1) * (6 + 5))
        self.assertEqual((snap(store), kept_told(store), store.mail(), store.crossed(), disk.steps()), ahead)

    def test_refused_within_it_goes_through_and_leaves_all_in_order(self):
        store = begun()
        for deed in self.deeds(store):
            with self.assertRaises(Busy):
                store.run(lambda knot, held, got, ties: (deed(), ()))
            self.assertIs(store.busy(), False)
        self.assertEqual(store.tell([("knot", 30, "a", ())]), 3)

    def test_a_house_told_ahead_answers_still(self):
        store = begun()
        house = store.house(0)
        message = ("knots", 1, (), None)
        told = store.run(lambda knot, held, got, ties: (house.answer(message), ()))
        self.assertEqual(told[0], house.answer(message))

    def test_busy_goes_ahead_of_fell(self):
        disk = Disk()
        begun(disk=disk)
        disk = Disk(rows=disk.rows(), fall=0)
        store = Store(disk)
        seen = []

        def step(knot, held, got, ties):
            outcome(disk.write, "front", "a")
            seen.extend([outcome(store.last), outcome(store.tell, None), disk.is_up(), store.busy()])
            return None, ()

        store.run(step)
        self.assertEqual(seen, [(Busy, {}), (Busy, {}), False, True] * 6)
        self.assertEqual((outcome(store.last), store.busy()), ((Fell, {"step": 0}), False))

    def test_another_store_is_not_busy(self):
        store, other = begun(), begun()
        told = store.run(lambda knot, held, got, ties: (other.tell([("put", 0, "p", knot)]), ()))
        self.assertEqual(told, {0: 3, 1: 4, 2: 5, 3: 6, 8: 7, 15: 8})
        self.assertEqual(len(BEGIN), 13)


if __name__ == "__main__":
    unittest.main()
