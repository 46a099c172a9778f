"""Point 32: slots move from house to house."""

import random
import unittest

from tests.asking import some_question
from tests.samples import HUGE, anything
from tests.storing import ASKERS, KIND, PAIRS, SPREAD, begun, do, kept_told, outcome, said, said_too, some_history, some_placing
from websplit.disks import Disk
from websplit.errors import Home, Moving, NoMove, NoPlace
from websplit.plain import answer
from websplit.store import Store


class Moves(unittest.TestCase):
    def setUp(self):
        self.store = begun()

    def assert_houses(self, store=None):
        """Each house has its slots, of all kept moments, and nothing else."""
        store = store or self.store
        placing = store.placing()
        for number in range(6):
            if number not in placing:
                self.assertEqual(outcome(store.house, number), (NoPlace, {"asked": number}))
                continue
            house = store.house(number)
            for moment in range(store.first(), store.last() + 1):
                web = store.web(moment=moment)
                for bars in ((), (("kind", "b"), ("one", 0))):
                    self.assertEqual(said(house, moment, bars), said_too(web, placing, number, moment, bars))

    def assert_answers(self, store=None):
        store = store or self.store
        for moment in range(store.first(), store.last() + 1):
            for asker in ("ann", None):
                web = store.web(asker=asker, moment=moment)
                for question in (KIND, PAIRS):
                    self.assertEqual(store.ask(question, asker=asker, moment=moment), answer(web, question))


class Steps(Moves):
    def test_begun_copied_moved(self):
        self.assertIsNone(self.store.moving())
        self.assertIsNone(self.store.move(0, 5))
        self.assertEqual((self.store.moving(), self.store.placing()), ((0, 5, "begun"), SPREAD))
        self.assert_houses()
        self.assertEqual(self.store.move_on(), "copied")
        self.assertEqual((self.store.moving(), self.store.placing()), ((0, 5, "copied"), SPREAD))
        self.assert_houses()
        self.assertEqual(self.store.move_on(), "moved")
        self.assertEqual((self.store.moving(), self.store.placing()), (None, (5, 1, 2, 3, 4, 5, 0, 1)))
        self.assert_houses()
        self.assert_answers()

    def test_who_answers(self):
        message = ("knots", 1, (), None)
        for deed in (lambda: self.store.move(slot=0, house=3), self.store.move_on):
            deed()
            self.assertEqual((self.store.house(0).answer(message), self.store.house(3).answer(message)), ((0, 8), (3,)))
        self.store.move_on()
        self.assertEqual((self.store.house(0).answer(message), self.store.house(3).answer(message)), ((), (0, 3, 8)))
        self.store.ask(KIND)
        self.assertEqual([letter[2] for letter in self.store.mail()], [(), (1,), (), (0, 8), (), ()])

    def test_to_a_house_without_slots_and_the_last_slot_of_a_house(self):
        store = begun((1, 0, 0, 0, 0, 0, 0, 0))
        store.move(0, 4)
        self.assertEqual(outcome(store.house, 4), (NoPlace, {"asked": 4}))
        store.move_on()
        self.assertEqual(outcome(store.house, 4), (NoPlace, {"asked": 4}))
        self.assert_houses(store)
        store.move_on()
        self.assertEqual(outcome(store.house, 1), (NoPlace, {"asked": 1}))
        self.assertEqual(store.placing(), (4, 0, 0, 0, 0, 0, 0, 0))
        self.assert_houses(store)
        self.assert_answers(store)

    def test_each_slot_to_each_house(self):
        for slot in range(8):
            for house in range(6):
                store = begun()
                if SPREAD[slot] == house:
                    continue
                store.move(slot, house)
                self.assertEqual([store.move_on(), store.move_on()], ["copied", "moved"])
                self.assertEqual(store.placing(), SPREAD[:slot] + (house,) + SPREAD[slot + 1:])
                self.assert_houses(store)

    def test_batches_bars_and_letting_go_between(self):
        batches = ([("put", 8, "q", 9), ("knot", 16, "b", (("p", 5),)), ("tie", 30, "t", 16, 1, 1)],
                   [("bar", "ann", ("kind", "b")), ("put", 1, "p", 8)],
                   [("cut", 30), ("drop", 16), ("free", "ann", ("one", 1))],
                   [("put", 0, "p", 3), ("tie", 31, "u", 2, 0, 7)])
        for begun_at in range(3):
            for copied_at in range(begun_at, 4):
                for go in (None, 0, 1, 2, 3):
                    store = begun()
                    store.keep("one", PAIRS, asker="ann")
                    still = begun()
                    still.keep("one", PAIRS, asker="ann")
                    for at, batch in enumerate(batches):
                        if at == begun_at:
                            store.move(0, 1)
                        if at == copied_at:
                            self.assertEqual(store.move_on(), "copied")
                        for one in (store, still):
                            one.tell(batch)
                            if at == go:
                                one.let_go(at + 1)
                        self.assert_houses(store)
                    self.assertEqual(store.move_on(), "moved")
                    self.assertIs(store == still, True)
                    self.assertEqual(kept_told(store), kept_told(still))
                    self.assert_houses(store)
                    self.assert_answers(store)

    def test_numbers_stay_taken_behind_a_move(self):
        self.store.tell([("knot", 16, "a", ()), ("drop", 16), ("tie", 40, "t", 8, 8, 1), ("cut", 40)])
        self.store.let_go(3)
        self.store.move(0, 5)
        self.store.move_on()
        self.store.tell([("knot", 24, "a", ()), ("drop", 24), ("tie", 41, "t", 8, 8, 1), ("cut", 41)])
        self.store.move_on()
        for deed in (("knot", 16, "a", ()), ("knot", 24, "a", ()), ("tie", 40, "t", 0, 0, 1), ("tie", 41, "t", 0, 0, 1)):
            self.assertEqual(outcome(self.store.tell, [deed])[1], {"at": 0, "why": "taken"})

    def test_the_elder_house_has_nothing_of_the_slot_but_of_far_knots(self):
        """Knot 0 is far from knot 6 behind the move: its tie to knot 6 is told, the knot itself isn't."""
        store = Store(Disk(), placing=(0, 1, 1, 1, 1, 1, 0, 1))
        store.tell([("knot", 0, "a", (("p", 1),)), ("knot", 6, "b", ()), ("tie", 1, "t", 0, 6, 3), ("tie", 2, "t", 0, 0, 3)])
        store.move(0, 2)
        store.move_on()
        store.move_on()
        elder = store.house(0)
        self.assertEqual(elder.answer(("knots", 1, (), None)), (6,))
        self.assertEqual(elder.answer(("look", 1, (), (0, 6))), ((6, "b", ()),))
        self.assertEqual(elder.answer(("ties", 1, (), "t")), ())
        self.assertEqual(elder.answer(("outs", 1, (), (0, 6), "t")), ())
        self.assertEqual(elder.answer(("ins", 1, (), (0, 6), "t")), ((1, 0, 6, 3),))
        # The bars on a far knot are known still.
        self.assertEqual(elder.answer(("ins", 1, (("holding", "p", 1),), (6,), "t")), ())
        self.assertEqual(store.house(2).answer(("ins", 1, (), (0, 6), "t")), ((2, 0, 0, 3),))

    def test_houses_told_ahead_stay_as_they_were(self):
        self.store.move(0, 3)
        told = []
        for deed in (lambda: None, self.store.move_on, lambda: self.store.tell([("put", 0, "p", 9)]), self.store.move_on,
                     lambda: self.store.tell([("cut", 1)]), lambda: self.store.let_go(3)):
            deed()
            placing, moments = self.store.placing(), range(self.store.first(), self.store.last() + 1)
            for number in (0, 3):
                webs = {moment: self.store.web(moment=moment) for moment in moments}
                told.append((self.store.house(number), placing, number, webs))
        for house, placing, number, webs in told:
            for moment, web in webs.items():
                self.assertEqual(said(house, moment), said_too(web, placing, number, moment))


class Back(Moves):
    def test_taken_back_and_begun_again(self):
        for copied in (0, 1):
            self.store.move(1, 0)
            for _ in range(copied):
                self.store.move_on()
            self.store.tell([("put", 1, "p", 50 + copied)])
            self.assertEqual(self.store.move_back(), 1)
            self.assertEqual((self.store.moving(), self.store.placing()), (None, SPREAD))
            self.assertEqual(outcome(self.store.move_back), (NoMove, {}))
            self.assertEqual(outcome(self.store.move_on), (NoMove, {}))
            self.assert_houses()
        self.store.move(1, 0)
        self.store.move_on()
        self.store.tell([("put", 1, "p", 60)])
        self.assertEqual(self.store.move_on(), "moved")
        self.assertEqual(self.store.placing(), (0, 0, 2, 3, 4, 5, 0, 1))
        self.assert_houses()
        self.store.move(1, 1)
        self.store.move_on()
        self.store.move_on()
        self.assertEqual(self.store.placing(), SPREAD)
        self.assert_houses()
        self.assert_answers()

    def test_a_copy_that_was_taken_back_is_gone(self):
        self.store.move(0, 3)
        self.store.move_on()
        self.store.move_back()
        self.store.move(2, 3)
        self.store.move_on()
        self.store.move_on()
        self.assertEqual(self.store.house(3).answer(("knots", 1, (), None)), (2, 3))
        self.assert_houses()


class Refused(Moves):
    def assert_refused(self, error, ask, *told, **fields):
        ahead = self.store.placing(), self.store.moving(), self.store.disk.steps()
        kind, found = outcome(ask, *told)
        self.assertIs(kind, error)
        self.assertEqual(list(found), list(fields))
        for field, value in fields.items():
            self.assertIs(found[field], value)
        self.assertEqual((self.store.placing(), self.store.moving(), self.store.disk.steps()), ahead)

    def all_refused(self):
        """What is refused whether or not a move goes on."""
        slots = [thing for thing in anything() if type(thing) is not int] + [-1, 8, 9, 1000, HUGE, -HUGE, "0", (0,), [0]]
        houses = [thing for thing in anything() if type(thing) is not int] + [-1, 6, 7, 1000, HUGE, -HUGE, "0", (0,), [0]]
        for slot in slots:
            for house in (0, 5, 6, None, slot):
                self.assert_refused(NoPlace, self.store.move, slot, house, asked=slot)
        for house in houses:
            for slot in (0, 7):
                self.assert_refused(NoPlace, self.store.move, slot, house, asked=house)
        for slot in range(8):
            self.assert_refused(Home, self.store.move, slot, SPREAD[slot], number=SPREAD[slot])

    def test_no_place_and_home(self):
        self.all_refused()
        self.assert_refused(NoMove, self.store.move_on)
        self.assert_refused(NoMove, self.store.move_back)

    def test_moving_behind_them(self):
        for slot, house in ((0, 5), (7, 2)):
            self.store.move(slot, house)
            for _ in range(2):
                self.all_refused()
                for other in range(8):
                    for to in range(6):
                        if SPREAD[other] != to:
                            self.assert_refused(Moving, self.store.move, other, to, slot=slot)
                if self.store.moving()[2] == "begun":
                    self.store.move_on()
            self.store.move_back()

    def test_truths_are_no_places(self):
        for truth in (True, False):
            self.assert_refused(NoPlace, self.store.move, truth, 5, asked=truth)
            self.assert_refused(NoPlace, self.store.move, 3, truth, asked=truth)
            self.assert_refused(NoPlace, self.store.house, truth, asked=truth)

    def test_house(self):
        store = self.store = begun((0, 1, 0, 1, 0, 1, 0, 1))
        for number in anything() + [2, 5, 6, -1, "0", (0,), [0]]:
            if type(number) is int and number in (0, 1):
                self.assertIsNotNone(store.house(number=number))
                continue
            self.assert_refused(NoPlace, store.house, number, asked=number)


class ByChance(Moves):
    def test_amid_all_else(self):
        """A store whose slots move tells what one tells whose slots stay."""
        moved = 0
        for seed in range(25):
            chance = random.Random(seed)
            placing = some_placing(chance)
            history = some_history(chance, placing, 40)
            store, still = Store(Disk(), placing=placing), Store(Disk())
            for deed in history:
                told = outcome(do, store, deed)
                if deed[0].startswith("move"):
                    moved += told == ("told", "moved")
                    continue
                self.assertEqual(outcome(do, still, deed), told)
                self.assertIs(store == still, True)
                self.assertEqual(kept_told(store), kept_told(still))
                asker = chance.choice(ASKERS)
                moment = chance.choice((None, chance.randint(store.first(), store.last())))
                question = some_question(chance, variables=3)
                self.assertEqual(store.ask(question, asker=asker, moment=moment), still.ask(question, asker=asker, moment=moment))
            self.assert_houses(store)
        self.assertGreater(moved, 20)


if __name__ == "__main__":
    unittest.main()
