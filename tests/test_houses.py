"""Point 28: slots and houses."""

import copy
import random
import unittest

from tests.asking import rows_of, some_bar, some_web
from tests.housing import reply, rising
from websplit.houses import House, slot_of
from websplit.webs import Web
from websplit.webtexts import read_web

# Slots: 0 of 0, 8; 1 of 1, 9; 2 of 2, 10; 7 of 999.
WEB = read_web("""knot 0 a p=1 q=rome
knot 1 a
knot 2 b p=2
knot 8 b
knot 9 a p=1
knot 10 c
knot 999 a
tie 1 t 0 1 5
tie 2 t 1 0 6
tie 3 t 0 0 7
tie 4 u 2 8 8
tie 5 t 9 10 9
tie 6 t 0 1 5
tie 7 u 999 2 1
tie 10 t 8 1 1""")
ALL = range(8)


class Slots(unittest.TestCase):
    def test_slots(self):
        self.assertEqual([slot_of(knot) for knot in (0, 7, 8, 9, 15, 16, 100, 998, 999)], [0, 7, 0, 1, 7, 0, 4, 6, 7])
        self.assertEqual(slot_of(knot=12), 4)


class Messages(unittest.TestCase):
    def assert_told(self, slots, message, told):
        ahead = rows_of(WEB)
        house = House(WEB, slots)
        for _ in range(2):
            found = house.answer(message)
            self.assertEqual(found, told)
            self.assertIs(type(found), tuple)
        self.assertEqual(house.answer(message=message), told)
        self.assertEqual(House(web=WEB, slots=tuple(slots)).answer(message), told)
        self.assertEqual(reply(WEB, list(slots), message), told)
        self.assertEqual(rows_of(WEB), ahead)

    def test_knots(self):
        self.assert_told([0], ("knots", 0, (), None), (0, 8))
        self.assert_told([0], ("knots", 0, (), "a"), (0,))
        self.assert_told([1, 0], ("knots", 0, (), "a"), (0, 1, 9))
        self.assert_told(ALL, ("knots", 0, (), None), (0, 1, 2, 8, 9, 10, 999))
        self.assert_told(ALL, ("knots", 0, (), "z"), ())
        self.assert_told([3], ("knots", 0, (), None), ())
        self.assert_told([], ("knots", 0, (), None), ())
        self.assert_told([0], ("knots", 0, (("one", 0),), None), (8,))
        self.assert_told([0], ("knots", 0, (("kind", "a"),), "a"), ())
        self.assert_told(ALL, ("knots", 0, (("holding", "p", 1),), "a"), (1, 999))
        self.assert_told(ALL, ("knots", 0, (("name", "p"), ("ties", "t")), "b"), (2, 8))

    def test_far_knots_are_none_of_its_own(self):
        self.assert_told([0], ("knots", 0, (), "a"), (0,))
        self.assert_told([0], ("look", 0, (), (1, 2, 999)), ())
        self.assert_told([0], ("outs", 0, (), (1, 2), "t"), ())
        self.assert_told([1], ("ins", 0, (), (0, 8, 10), "t"), ())

    def test_look(self):
        self.assert_told([0], ("look", 0, (), (0, 8)), ((0, "a", (("p", 1), ("q", "rome"))), (8, "b", ())))
        self.assert_told([0], ("look", 0, (), ()), ())
        self.assert_told([0], ("look", 0, (), (0,)), ((0, "a", (("p", 1), ("q", "rome"))),))
        self.assert_told([0, 2], ("look", 0, (), (1, 2, 16, 500)), ((2, "b", (("p", 2),)),))
        self.assert_told([0], ("look", 0, (("name", "p"),), (0, 8)), ((0, "a", (("q", "rome"),)), (8, "b", ())))
        self.assert_told([0], ("look", 0, (("holding", "p", 1), ("name", "p")), (0, 8)), ((8, "b", ()),))
        self.assert_told([0], ("look", 0, (("kind", "b"), ("one", 0)), (0, 8)), ())

    def test_ties(self):
        self.assert_told([0], ("ties", 0, (), "t"), ((1, 0, 1, 5), (3, 0, 0, 7), (6, 0, 1, 5), (10, 8, 1, 1)))
        self.assert_told([0], ("ties", 0, (), "u"), ())
        self.assert_told([1], ("ties", 0, (), "t"), ((2, 1, 0, 6), (5, 9, 10, 9)))
        self.assert_told([2, 7], ("ties", 0, (), "u"), ((4, 2, 8, 8), (7, 999, 2, 1)))
        self.assert_told([0], ("ties", 0, (("one", 1),), "t"), ((3, 0, 0, 7),))
        self.assert_told([0], ("ties", 0, (("ties", "t"),), "t"), ())
        self.assert_told([1], ("ties", 0, (("kind", "c"),), "t"), ((2, 1, 0, 6),))
        self.assert_told([1], ("ties", 0, (("holding", "q", "rome"),), "t"), ((5, 9, 10, 9),))
        self.assert_told([], ("ties", 0, (), "t"), ())

    def test_outs(self):
        self.assert_told([0], ("outs", 0, (), (0,), "t"), ((1, 0, 1, 5), (3, 0, 0, 7), (6, 0, 1, 5)))
        self.assert_told([0], ("outs", 0, (), (0, 8), "t"), ((1, 0, 1, 5), (3, 0, 0, 7), (6, 0, 1, 5), (10, 8, 1, 1)))
        self.assert_told([0, 1], ("outs", 0, (), (0, 1, 3), "t"), ((1, 0, 1, 5), (2, 1, 0, 6), (3, 0, 0, 7), (6, 0, 1, 5)))
        self.assert_told([0], ("outs", 0, (), (), "t"), ())
        self.assert_told([0], ("outs", 0, (), (0,), "z"), ())
        self.assert_told([0], ("outs", 0, (("one", 1),), (0, 8), "t"), ((3, 0, 0, 7),))
        self.assert_told([0], ("outs", 0, (("one", 0),), (0, 8), "t"), ((10, 8, 1, 1),))

    def test_ins(self):
        self.assert_told([0], ("ins", 0, (), (0,), "t"), ((2, 1, 0, 6), (3, 0, 0, 7)))
        self.assert_told([0], ("ins", 0, (), (8,), "u"), ((4, 2, 8, 8),))
        self.assert_told([1], ("ins", 0, (), (1, 9), "t"), ((1, 0, 1, 5), (6, 0, 1, 5), (10, 8, 1, 1)))
        self.assert_told([1], ("ins", 0, (("holding", "p", 1),), (1, 9), "t"), ((10, 8, 1, 1),))
        self.assert_told([2], ("ins", 0, (), (2, 10), "u"), ((7, 999, 2, 1),))
        self.assert_told([2], ("ins", 0, (("one", 999),), (2,), "u"), ())

    def test_of_all_slots_and_of_none(self):
        for message in (("knots", 0, (), None), ("look", 0, (), (0, 1, 999)), ("ties", 0, (), "t"), ("outs", 0, (), (0, 1), "t"),
                        ("ins", 0, (), (0, 1), "t")):
            self.assertTrue(House(WEB, ALL).answer(message))
            self.assertEqual(House(WEB, []).answer(message), ())
            self.assertEqual(House(Web(), ALL).answer(message), ())


class ByChance(unittest.TestCase):
    def some_message(self, chance, web):
        bars = rising([some_bar(chance) for _ in range(chance.choice((0, 0, 1, 2, 4)))])
        knots = tuple(sorted(set(chance.sample(web.knots() + [3, 16, 17, 998], chance.randint(0, 4)))))
        kind, tie = chance.choice((None, "a", "b", "z")), chance.choice("ttuz")
        return chance.choice((("knots", 0, bars, kind), ("look", 0, bars, knots), ("ties", 0, bars, tie),
                              ("outs", 0, bars, knots, tie), ("ins", 0, bars, knots, tie)))

    def test_beside_a_second_house(self):
        chance = random.Random(28)
        full = {}
        for _ in range(400):
            web, slots = some_web(chance, knots=9, ties=20), chance.sample(ALL, chance.randint(0, 8))
            ahead = copy.deepcopy(slots)
            house = House(web, slots)
            for _ in range(6):
                message = self.some_message(chance, web)
                self.assertEqual(house.answer(message), reply(web, slots, message), (rows_of(web), slots, message))
                full[message[0]] = full.get(message[0], 0) + bool(reply(web, slots, message))
            self.assertEqual(slots, ahead)
        self.assertGreater(min(full.values()), 40, full)

    def test_it_holds_its_slots_and_what_they_are_tied_to_alone(self):
        chance = random.Random(280)
        for _ in range(100):
            web, slots = some_web(chance, knots=9, ties=12), chance.sample(ALL, chance.randint(0, 4))
            knots, ties = rows_of(web)
            held = [tie for tie in ties if tie[2] % 8 in slots or tie[3] % 8 in slots]
            near = {knot for tie in held for knot in tie[2:4]} | {row[0] for row in knots if row[0] % 8 in slots}
            small = Web([row for row in knots if row[0] in near], held)
            house = House(web, slots)
            self.assertEqual(house.piece, small)
            self.assertEqual(set(vars(house)), {"piece", "own_slots"})
            for _ in range(6):
                message = self.some_message(chance, web)
                self.assertEqual(House(small, slots).answer(message), house.answer(message))

    def test_no_answer_holds_what_is_barred(self):
        chance = random.Random(281)
        for _ in range(400):
            web, slots = some_web(chance, knots=9, ties=20), chance.sample(ALL, chance.randint(1, 8))
            message = self.some_message(chance, web)
            one = House(web, slots).answer(message)
            knots = [knot for knot in web.knots() if self.is_barred(web, knot, message[2])]
            if message[0] == "knots":
                self.assertFalse(set(one) & set(knots))
            elif message[0] == "look":
                names = {name for row in one for name, _ in row[2]}
                self.assertFalse(names & {bar[1] for bar in message[2] if bar[0] == "name"})
                self.assertFalse({row[0] for row in one} & set(knots))
            else:
                self.assertFalse(one and ("ties", message[-1]) in message[2])
                self.assertFalse({knot for row in one for knot in row[1:3]} & set(knots))

    def is_barred(self, web, knot, bars):
        worths = web.worths(knot)
        return (("one", knot) in bars or ("kind", web.kind(knot)) in bars
                or any(("holding", name, worths[name]) in bars for name in worths))

    def test_what_is_handed_in_may_change_behind(self):
        slots = [0]
        house = House(WEB, slots)
        slots.append(1)
        slots[0] = 5
        self.assertEqual(house.answer(("knots", 0, (), None)), (0, 8))


if __name__ == "__main__":
    unittest.main()
