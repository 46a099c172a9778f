"""Point 11: webs."""

import copy
import random
import unittest

from tests.samples import HUGE, anything
from websplit.errors import NoKnot, NoTie
from websplit.webs import Web

KNOTS = [
    (10, "town", {}),
    (3, "person", {"town": "rome", "age": 30}),
    (9, "person", {"age": -999999999}),
    (0, "town", {"a": 1, "b": 2, "c": "x", "d": 0, "e": 5, "f": "yz"}),
]
TIES = [
    (999, "knows", 3, 9, 12),
    (4, "knows", 3, 9, 12),
    (10, "lives", 3, 0, 1),
    (9, "self", 9, 9, 1000),
    (0, "knows", 9, 3, 1),
]


def some_web():
    return Web(copy.deepcopy(KNOTS), list(TIES))


class Told(unittest.TestCase):
    def test_numbers_rise(self):
        web = some_web()
        self.assertEqual(web.knots(), [0, 3, 9, 10])
        self.assertEqual(web.ties(), [0, 4, 9, 10, 999])
        self.assertEqual(len(web), 4)

    def test_knots(self):
        web = some_web()
        for number, kind, worths in KNOTS:
            self.assertEqual(web.kind(number), kind)
            self.assertEqual(web.worths(number), worths)
            self.assertIs(type(web.worths(number)), dict)
        self.assertEqual(web.kind(knot=3), "person")
        self.assertEqual(web.worths(knot=10), {})

    def test_ties(self):
        web = some_web()
        for number, *rest in TIES:
            self.assertEqual(web.tie(number), tuple(rest))
            self.assertIs(type(web.tie(number)), tuple)
        self.assertEqual(web.tie(number=9), ("self", 9, 9, 1000))

    def test_outs_and_ins(self):
        web = some_web()
        self.assertEqual([web.outs(knot) for knot in (0, 3, 9, 10)], [[], [4, 10, 999], [0, 9], []])
        self.assertEqual([web.ins(knot) for knot in (0, 3, 9, 10)], [[10], [0], [4, 9, 999], []])
        self.assertEqual(web.outs(knot=9), [0, 9])
        self.assertEqual(web.ins(knot=9), [4, 9, 999])

    def test_order_of_the_lists_does_not_count(self):
        chance = random.Random(1)
        for _ in range(50):
            knots, ties = copy.deepcopy(KNOTS), list(TIES)
            chance.shuffle(knots)
            chance.shuffle(ties)
            web = Web(tuple(knots), ties=tuple(ties))
            self.assertEqual(web, some_web())
            self.assertEqual((web.knots(), web.ties()), ([0, 3, 9, 10], [0, 4, 9, 10, 999]))
            self.assertEqual([web.outs(3), web.ins(9)], [[4, 10, 999], [4, 9, 999]])

    def test_the_empty_web(self):
        for web in (Web(), Web([], []), Web(knots=(), ties=())):
            self.assertEqual((web.knots(), web.ties(), len(web)), ([], [], 0))
            self.assertTrue(web == Web())
            with self.assertRaises(NoKnot):
                web.kind(0)
            with self.assertRaises(NoTie):
                web.tie(0)

    def test_somewhat_beyond_the_bounds_nothing_is_raised(self):
        knots = [(number, "a", {"abcdefgh"[k]: k for k in range(8)}) for number in range(1000, 1062)]
        web = Web(knots, [(number, "a", 1000, 1061, 1001) for number in range(130)])
        self.assertEqual((len(web), len(web.ties()), len(web.worths(1061)), web.ins(1061)[-1]), (62, 130, 8, 129))


class Equality(unittest.TestCase):
    def assert_unlike(self, one, other):
        self.assertFalse(one == other)
        self.assertFalse(other == one)
        self.assertTrue(one != other)
        self.assertTrue(other != one)

    def test_like_webs(self):
        one, other = some_web(), some_web()
        self.assertTrue(one == other and other == one)
        self.assertFalse(one != other or other != one)

    def test_one_thing_otherwise(self):
        web = some_web()
        for at, (number, kind, worths) in enumerate(KNOTS):
            others = [(number, "else", worths), (number, kind, {**worths, "age": 31})]
            if worths:
                first = sorted(worths)[0]
                others.append((number, kind, {name: worths[name] for name in worths if name != first}))
                others.append((number, kind, {name + "x": worths[name] for name in worths}))
            for other in others:
                self.assert_unlike(web, Web(KNOTS[:at] + [other] + KNOTS[at + 1:], TIES))
        for at, (number, kind, start, end, weight) in enumerate(TIES):
            for other in ((number, "else", start, end, weight), (number, kind, 10, end, weight),
                          (number, kind, start, 10, weight), (number, kind, start, end, weight + 1),
                          (number + 20, kind, start, end, weight)):
                self.assert_unlike(web, Web(KNOTS, TIES[:at] + [other] + TIES[at + 1:]))
            self.assert_unlike(web, Web(KNOTS, TIES[:at] + TIES[at + 1:]))
        self.assert_unlike(web, Web(KNOTS + [(11, "town", {})], TIES))
        self.assert_unlike(Web(KNOTS[:1]), Web([(11,) + KNOTS[0][1:]]))
        self.assert_unlike(Web(KNOTS), web)
        self.assert_unlike(Web(), web)

    def test_way_of_a_tie_counts(self):
        knots = [(1, "a", {}), (2, "a", {})]
        self.assert_unlike(Web(knots, [(1, "a", 1, 2, 1)]), Web(knots, [(1, "a", 2, 1, 1)]))

    def test_a_number_is_no_text(self):
        self.assert_unlike(Web([(1, "a", {"a": 1})]), Web([(1, "a", {"a": "one"})]))

    def test_things_of_another_kind(self):
        for web in (Web(), some_web()):
            for other in anything() + [object(), KNOTS, "", len(web), web.knots()]:
                self.assert_unlike(web, other)


class Own(unittest.TestCase):
    def test_what_was_told_is_the_askers_own(self):
        web = some_web()
        for tell in (web.knots, web.ties, lambda: web.outs(3), lambda: web.ins(9)):
            told = tell()
            ahead = list(told)
            told.append(5)
            told[0] = 77
            self.assertEqual(tell(), ahead)
        told = web.worths(3)
        told["age"] = 1
        told["new"] = 2
        del told["town"]
        self.assertEqual(web.worths(3), {"town": "rome", "age": 30})
        self.assertEqual(web, some_web())

    def test_no_ties_are_told_anew_too(self):
        web = some_web()
        web.outs(10).append(4)
        web.ins(10).append(4)
        self.assertEqual((web.outs(10), web.ins(10), web.outs(0)), ([], [], []))

    def test_what_was_handed_in_stays_and_may_change_behind(self):
        knots, ties = copy.deepcopy(KNOTS), list(TIES)
        web = Web(knots, ties)
        self.assertEqual((knots, ties), (KNOTS, TIES))
        self.assertEqual([list(row[2]) for row in knots], [list(row[2]) for row in KNOTS])
        knots[1][2]["age"] = 99
        knots[0][2]["new"] = 1
        knots.clear()
        ties.pop()
        self.assertEqual(web, some_web())
        self.assertEqual(web.worths(3), {"town": "rome", "age": 30})


class Refused(unittest.TestCase):
    def assert_refused(self, error, ask, asked):
        with self.assertRaises(error) as caught:
            ask(asked)
        self.assertIs(caught.exception.asked, asked)
        self.assertIs(type(caught.exception), error)

    def test_what_is_no_knot(self):
        full = Web([(0, "a", {}), (1, "a", {})], [(0, "a", 0, 1, 1), (5, "a", 1, 1, 1)])
        for web in (Web(), full):
            for asked in anything() + [4, 5, 2, "0", (0,), [0], -2, HUGE]:
                if type(asked) is int and asked in web.knots():
                    continue
                for ask in (web.kind, web.worths, web.outs, web.ins):
                    self.assert_refused(NoKnot, ask, asked)

    def test_what_is_no_tie(self):
        full = Web([(0, "a", {}), (7, "a", {})], [(0, "a", 0, 7, 1), (1, "a", 7, 7, 1)])
        for web in (Web(), full):
            for asked in anything() + [7, 2, "0", (0,), [0], -2, HUGE]:
                if type(asked) is int and asked in web.ties():
                    continue
                self.assert_refused(NoTie, web.tie, asked)

    def test_what_is_refused_stays(self):
        web = some_web()
        for asked in anything():
            ahead = copy.deepcopy(asked)
            try:
                web.worths(asked)
                web.tie(asked)
            except (NoKnot, NoTie):
                pass
            self.assertEqual(asked, ahead)
        self.assertEqual(web, some_web())


if __name__ == "__main__":
    unittest.main()
