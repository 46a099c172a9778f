"""Point 31: a store on a disk that may fall at any step."""

import copy
import random
import unittest

from tests.samples import anything
from tests.storing import ASKERS, BEGIN, KIND, NO, PAIRS, SPREAD, begun, do, kept_told, outcome, snap, some_history, some_placing
from websplit.bounds import SLOTS
from websplit.disks import Disk
from websplit.errors import Fell, Known, NoBatch, NoName
from websplit.store import Store
from websplit.things import is_thing

# Every sort of deed, moves amid batches, bars and letting go; some of it is refused.
HISTORY = (
    ("tell", BEGIN), ("keep", "one", PAIRS, "ann"), ("keep", "two", NO, None),
    ("tell", (("bar", "ann", ("one", 1)), ("bar", "bob", ("kind", "b")))),
    ("move", 0, 5), ("tell", (("knot", 16, "b", (("q", 2),)), ("tie", 20, "t", 16, 1, 9), ("put", 0, "p", 7))),
    ("move_on",), ("tell", (("put", 8, "q", 3), ("cut", 4), ("knot", 24, "a", ()), ("drop", 24), ("tie", 21, "u", 16, 0, 1))),
    ("let_go", 2), ("forget", "one"), ("keep", "one", KIND, "bob"), ("tell", (("drop", 99),)), ("move_on",),
    ("tell", (("out", 8, "q"), ("free", "ann", ("one", 1)))), ("move", 0, 2), ("move_on",), ("move_back",),
    ("move", 1, 2), ("move_back",), ("move", 1, 0), ("move_on",), ("let_go", 4), ("tell", (("put", 1, "p", 3),)), ("move_on",),
    ("keep", "one", KIND, "bob"), ("forget", "nobody"), ("tell", (("knot", 24, "a", ()),)), ("tell", (("cut", 20), ("cut", 21), ("drop", 16))),
)


def told_of(history, placing):
    """What a store on a disk that never falls tells behind each deed, and how many steps are behind it then."""
    disk = Disk()
    store = Store(disk, placing=placing)
    snaps, steps, outcomes = [snap(store)], [disk.steps()], []
    for deed in history:
        outcomes.append(outcome(do, store, deed))
        snaps.append(snap(store))
        steps.append(disk.steps())
    return snaps, steps, outcomes


class Falling(unittest.TestCase):
    def go(self, disk, history, placing):
        """How many deeds were done ahead of the fall, -1 where it fell while it was opened."""
        try:
            store = Store(disk, placing=placing)
        except Fell as fell:
            self.assertEqual(fell.step, disk.steps())
            return -1
        for at, deed in enumerate(history):
            kind, told = outcome(do, store, deed)
            if kind is Fell:
                self.assertEqual((told, disk.is_up()), ({"step": disk.steps()}, False))
                return at
        self.assertIs(disk.is_up(), True)
        return len(history)

    def open_again(self, rows, allowed):
        """The store of the rows, opened twice, and which of the allowed tellings is its own."""
        told = [snap(Store(Disk(rows=rows), placing=(3,) * SLOTS)) for _ in range(2)]
        self.assertEqual(told[0], told[1])
        store = Store(Disk(rows=rows), placing=(4,) * SLOTS)
        self.assertEqual(snap(store), told[0])
        self.assertIn(told[0], allowed)
        for name in store.names():
            self.assertEqual((store.came(name), store.went(name), store.searches(name)), ([], [], 1))
        self.assertEqual((store.mail(), store.crossed(), store.busy()), ([], 0, False))
        return store, allowed.index(told[0])

    def fall_at(self, fall, history, placing, snaps, outcomes):
        """Falls at a step, is opened again, and goes on to the end."""
        disk = Disk(fall=fall)
        at = self.go(disk, history, placing)
        if at < 0:
            self.assertEqual(disk.rows(), {})
            return
        rows = disk.rows()
        kept = copy.deepcopy(rows)
        store, done = self.open_again(rows, [snaps[at], snaps[at + 1]])
        self.assertEqual(rows, kept)
        # The deed that the disk fell amid is told again where it isn't there, and is the same then.
        for further in range(at + done, len(history)):
            self.assertEqual(outcome(do, store, history[further]), outcomes[further], history[further])
            if further < at + 2:
                self.assertEqual(snap(store), snaps[further + 1])
        self.assertEqual(snap(store), snaps[-1])
        self.assertIs(store == self.never_fallen(history, placing), True)

    def never_fallen(self, history, placing):
        store = Store(Disk(), placing=placing)
        for deed in history:
            outcome(do, store, deed)
        return store


class Histories(Falling):
    def test_at_each_step(self):
        snaps, steps, outcomes = told_of(HISTORY, SPREAD)
        refused = [at for at, told in enumerate(outcomes) if told[0] != "told"]
        self.assertEqual([outcomes[at][0] for at in refused], [NoBatch, Known, NoName, NoBatch])
        for at in refused:
            self.assertEqual(steps[at + 1], steps[at])
        for fall in range(steps[-1]):
            self.fall_at(fall, HISTORY, SPREAD, snaps, outcomes)
        self.assertEqual(self.go(Disk(fall=steps[-1]), HISTORY, SPREAD), len(HISTORY))

    def test_by_chance_over_any_placing(self):
        steps_in_all, done = 0, {}
        for seed in range(12):
            chance = random.Random(seed)
            placing = some_placing(chance)
            history = some_history(chance, placing, 25)
            snaps, steps, outcomes = told_of(history, placing)
            for fall in range(steps[-1]):
                self.fall_at(fall, history, placing, snaps, outcomes)
            steps_in_all += steps[-1]
            for deed, (kind, _) in zip(history, outcomes):
                done[deed[0]] = done.get(deed[0], 0) + (kind == "told")
        self.assertGreater(steps_in_all, 300)
        self.assertGreater(min(done.values()), 2, done)

    def test_fallen_again_and_again(self):
        """Each life has few steps, one more where no deed came to its end in the last one."""
        snaps, _, _ = told_of(HISTORY, SPREAD)
        for steps in (1, 2, 3, 5, 9):
            rows, done, lives = {}, 0, 0
            while done < len(HISTORY):
                disk = Disk(rows=rows, fall=steps)
                ahead, done = done, self.live(disk, done, snaps)
                steps += done == ahead
                rows = disk.rows()
                lives += 1
            self.assertEqual(snap(Store(Disk(rows=rows))), snaps[-1])
            self.assertGreater(lives, 5)

    def live(self, disk, done, snaps):
        """How many deeds are done behind this disk's life."""
        kind, store = outcome(Store, disk, placing=SPREAD)
        if kind is Fell:
            return done
        self.assertIn(snap(store), snaps[done:done + 2])
        done += snap(store) != snaps[done]
        while done < len(HISTORY) and outcome(do, store, HISTORY[done])[0] is not Fell:
            done += 1
            self.assertEqual(snap(store), snaps[done])
        return done

    def test_opened_on_a_disk_that_falls_at_once(self):
        """Whether or not opening writes: the rows tell the same store behind it."""
        snaps, steps, _ = told_of(HISTORY, SPREAD)
        for fall in range(1, steps[-1], 3):
            disk = Disk(fall=fall)
            at = self.go(disk, HISTORY, SPREAD)
            for again in (0, 1, 2):
                second = Disk(rows=disk.rows(), fall=again)
                opened = outcome(Store, second)
                if opened[0] == "told":
                    self.assertIn(snap(opened[1]), snaps[at:at + 2])
                self.open_again(second.rows(), snaps[at:at + 2])

    def test_a_deed_that_is_not_there_never_comes_back(self):
        """Behind the fall other deeds are told, and the store is opened once more."""
        others = (("tell", (("put", 3, "p", 1),)), ("tell", (("bar", "zed", ("one", 1)),)), ("let_go", 1), ("move", 2, 0), ("move_on",))
        snaps, steps, _ = told_of(HISTORY, SPREAD)
        left_out = 0
        for fall in range(steps[1], steps[-1]):
            disk = Disk(fall=fall)
            at = self.go(disk, HISTORY, SPREAD)
            for other in others:
                again = Disk(rows=disk.rows())
                store = Store(again)
                left_out += snap(store) == snaps[at] != snaps[at + 1]
                outcome(do, store, other)
                self.assertEqual(snap(Store(Disk(rows=again.rows()))), snap(store))
                do(store, ("tell", (("put", 0, "p", 77), ("put", 2, "p", 77))))
                self.assertEqual(snap(Store(Disk(rows=again.rows()))), snap(store))
        self.assertGreater(left_out, 50)

    def test_a_number_had_within_a_batch_stays_taken(self):
        disk = Disk()
        store = Store(disk, placing=SPREAD)
        store.tell([("knot", 1, "a", ()), ("knot", 9, "a", ()), ("tie", 5, "t", 1, 9, 1), ("cut", 5), ("drop", 9)])
        store.move(1, 0)
        store.move_on()
        store.move_on()
        store.tell([("knot", 2, "a", ())])
        store.let_go(2)
        for opened in (store, Store(Disk(rows=disk.rows()))):
            for deed in (("knot", 9, "b", ()), ("tie", 5, "t", 1, 2, 1), ("knot", 1, "a", ())):
                self.assertEqual(outcome(opened.tell, [deed]), (NoBatch, {"at": 0, "why": "taken"}))


class Opened(unittest.TestCase):
    def test_a_new_store_begins_with_its_placing(self):
        for rows in (None, {}, {0: []}, {"front": [], 3: []}):
            for placing in ((0,) * 8, SPREAD, (5, 5, 5, 5, 4, 4, 4, 4)):
                store = Store(Disk(rows=rows), placing=placing)
                self.assertEqual((store.placing(), store.first(), store.last()), (placing, 0, 0))
                self.assertEqual((store.names(), store.moving(), len(store.web())), ([], None, 0))
        self.assertEqual(Store(Disk()).placing(), (0,) * 8)
        self.assertEqual(Store(disk=Disk(), placing=SPREAD).placing(), SPREAD)
        with self.assertRaises(TypeError):
            Store(Disk(), SPREAD)

    def test_rows_tell_the_placing(self):
        disk = Disk()
        Store(disk, placing=SPREAD)
        self.assertEqual(Store(Disk(rows=disk.rows())).placing(), SPREAD)
        self.assertEqual(Store(Disk(rows=disk.rows()), placing=(5,) * 8).placing(), SPREAD)

    def test_kept_answers_are_searched_anew(self):
        disk = Disk()
        store = begun(disk=disk)
        store.keep("one", KIND, asker="ann")
        store.keep("two", KIND)
        store.tell([("knot", 30, "a", ())])
        store.tell([("drop", 30), ("knot", 31, "a", ())])
        self.assertEqual(kept_told(store)["one"], ([(0,), (8,), (31,)], [(31,)], [(30,)], 3))
        opened = Store(Disk(rows=disk.rows()))
        self.assertEqual(kept_told(opened), {"one": ([(0,), (8,), (31,)], [], [], 1), "two": ([(0,), (1,), (8,), (31,)], [], [], 1)})
        opened.tell([("put", 0, "p", 3)])
        self.assertEqual(kept_told(opened)["one"], ([(0,), (8,), (31,)], [], [], 1))
        opened.tell([("bar", "ann", ("one", 31))])
        self.assertEqual(kept_told(opened)["one"], ([(0,), (8,)], [], [(31,)], 2))
        self.assertEqual(kept_told(opened)["two"][3], 1)

    def test_no_mail_and_nothing_crossed(self):
        disk = Disk()
        store = begun(disk=disk)
        store.ask(PAIRS)
        store.run(lambda knot, held, got, ties: (None, () if got else tuple((row[0], 1) for row in ties)))
        self.assertTrue(store.mail() and store.crossed())
        opened = Store(Disk(rows=disk.rows()))
        self.assertEqual((opened.mail(), opened.crossed()), ([], 0))
        self.assertTrue(store.mail() and store.crossed())

    def test_asking_writes_nothing(self):
        disk = Disk()
        store = begun(disk=disk)
        store.keep("one", KIND)
        steps = disk.steps()
        snap(store)
        for asker in ASKERS:
            store.ask(NO, asker=asker)
            store.barring(KIND, asker=asker)
            store.least(0, ["t"], asker=asker)
            store.run(lambda knot, held, got, ties: (None, ()), asker=asker)
        store.showing(KIND, (0,))
        store.let_go(0)
        self.assertEqual(disk.steps(), steps)

    def test_rows_are_things_at_their_places(self):
        disk = Disk()
        store = Store(disk, placing=SPREAD)
        for deed in HISTORY:
            outcome(do, store, deed)
        self.assertLessEqual(set(disk.rows()), {0, 1, 2, 3, 4, 5, "front"})
        for rows in disk.rows().values():
            for row in rows:
                self.assertIs(is_thing(row), True)

    def test_no_house_is_written_what_is_none_of_its_own(self):
        """Knots 0 and 8 stand at house 0, knot 1, which nothing ties to them, at house 1."""
        disk = Disk()
        store = Store(disk, placing=(0, 1) + (2,) * 6)
        store.tell([("knot", 0, "near", ()), ("knot", 8, "near", (("p", "word"),)), ("knot", 1, "far", (("p", "secret"),))])
        store.tell([("put", 1, "p", "other"), ("bar", "ann", ("kind", "near"))])
        rows = {place: repr(rows) for place, rows in disk.rows().items()}
        self.assertIn("secret", rows[1])
        self.assertNotIn("secret", rows[0] + rows["front"])
        self.assertNotIn("word", rows[1] + rows["front"])
        self.assertNotIn("'far'", rows[0] + rows["front"])
        self.assertNotIn(2, rows)

    def test_who_is_told_of_a_slot_that_moves(self):
        """Houses 1 and 2 hear of knot 1 while the copy is there, one of them alone ahead of it and behind it."""
        disk = Disk()
        store = Store(disk, placing=(0, 1) + (0,) * 6)
        store.tell([("knot", 1, "a", ())])
        told, worth = [], 0
        for deed in (("move", 1, 2), ("move_on",), ("move_back",), ("move", 1, 2), ("move_on",), ("move_on",), ("move", 1, 1), ("move_on",), ("move_on",)):
            do(store, deed)
            ahead, worth = disk.rows(), worth + 1
            store.tell([("put", 1, "p", worth)])
            told.append([house for house in (0, 1, 2) if disk.rows().get(house) != ahead.get(house)])
        self.assertEqual(told, [[1], [1, 2], [1], [1], [1, 2], [2], [2], [1, 2], [1]])

    def test_two_stores_of_the_same_rows_go_their_own_ways(self):
        disk = Disk()
        store = begun(disk=disk)
        rows = disk.rows()
        one, other = Store(Disk(rows=rows)), Store(Disk(rows=rows))
        self.assertIs(one == other and one == store, True)
        one.tell([("put", 0, "p", 5)])
        self.assertIs(one == other, False)
        self.assertEqual((other.last(), store.last(), one.last()), (2, 2, 3))


class Fallen(unittest.TestCase):
    def asks(self, store):
        step = lambda *told: (None, ())
        yield from (
            lambda: store.tell([("knot", 30, "a", ())]), lambda: store.tell(None), store.last, store.first,
            lambda: store.bars("ann"), lambda: store.bars(5), lambda: store.let_go(1), lambda: store.let_go(0),
            lambda: store.let_go(None), store.web, lambda: store.web(asker=5), lambda: store.web(moment=-1), lambda: store.ask(KIND),
            lambda: store.ask(None), store.mail, lambda: store.showing(KIND, (0,)), lambda: store.showing(None, None),
            lambda: store.barring(KIND), lambda: store.barring(None), lambda: store.keep("b", KIND), lambda: store.keep("B", KIND),
            lambda: store.keep("a", KIND), lambda: store.forget("a"), lambda: store.forget("z"), store.names,
            lambda: store.kept("a"), lambda: store.kept("z"), lambda: store.came("a"), lambda: store.went("a"),
            lambda: store.searches("a"), store.placing, lambda: store.house(0), lambda: store.house(9), lambda: store.move(0, 5),
            lambda: store.move(9, 9), store.move_on, store.move_back, store.moving, lambda: store.run(step),
            lambda: store.run(step, asker=5), store.crossed, lambda: store.least(0, ["t"]), lambda: store.least(99, ["t"]),
            lambda: store.parts(["t"]), lambda: Store(store.disk))

    def fallen(self, fall, deed):
        """A store whose disk fell at a step of a deed."""
        disk = Disk(fall=fall)
        store = begun(disk=disk)
        store.keep("a", KIND)
        store.move(1, 2)
        self.assertEqual(disk.steps(), self.steps())
        self.assertEqual(outcome(do, store, deed), (Fell, {"step": fall}))
        return store, disk

    def steps(self):
        disk = Disk()
        store = begun(disk=disk)
        store.keep("a", KIND)
        store.move(1, 2)
        return disk.steps()

    def test_everything_but_busy(self):
        fall = self.steps()
        for deed in (("tell", (("put", 0, "p", 5),)), ("tell", (("bar", "bob", ("one", 1)),)), ("let_go", 1), ("keep", "b", KIND, None),
                     ("forget", "a"), ("move_on",), ("move_back",)):
            store, disk = self.fallen(fall, deed)
            for _ in range(2):
                for ask in self.asks(store):
                    self.assertEqual(outcome(ask), (Fell, {"step": fall}))
                self.assertIs(store.busy(), False)
            self.assertEqual((disk.steps(), disk.is_up()), (fall, False))

    def test_what_was_told_ahead_is_told_still(self):
        disk = Disk(fall=self.steps())
        store = begun(disk=disk)
        house, web, mail, bars = store.house(0), store.web(), store.mail(), store.bars("ann")
        ahead = house.answer(("knots", 1, (), None)), web.knots(), list(mail), bars
        store.keep("a", KIND)
        store.move(1, 2)
        with self.assertRaises(Fell):
            store.move_on()
        self.assertEqual((house.answer(("knots", 1, (), None)), web.knots(), mail, bars), ahead)

    def test_refused_deeds_write_nothing_and_do_not_fall(self):
        store = begun(disk=Disk())
        disk = Disk(rows=store.disk.rows(), fall=0)
        store = Store(disk)
        for ask in [lambda: store.tell([]), lambda: store.tell([("drop", 0)]), lambda: store.let_go(99), lambda: store.let_go(0),
                    lambda: store.keep("A", KIND), lambda: store.keep("a", None), lambda: store.forget("a"), store.move_on,
                    store.move_back, lambda: store.move(0, 0), lambda: store.move(8, 0)]:
            self.assertIsNot(outcome(ask)[0], Fell)
        for thing in anything():
            self.assertEqual(outcome(store.tell, thing)[0], NoBatch)
        self.assertIs(disk.is_up(), True)
        with self.assertRaises(Fell):
            store.tell([("put", 0, "p", 5)])

    def test_a_new_store_that_falls(self):
        disk = Disk(fall=0)
        for _ in range(2):
            self.assertEqual(outcome(Store, disk), (Fell, {"step": 0}))
        self.assertEqual(disk.rows(), {})


if __name__ == "__main__":
    unittest.main()
