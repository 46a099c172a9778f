"""Point 34: least weights and parts."""

import copy
import random
import unittest

from tests.asking import rows_of, some_web
from tests.samples import HUGE, anything
from tests.storing import begun
from websplit.errors import NoKnot
from websplit.spreading import is_least, least, parts
from websplit.webs import Web
from websplit.webtexts import read_web

WEB = read_web("""knot 0 a
knot 1 a
knot 2 a
knot 3 a
knot 4 a
knot 9 a
tie 0 t 0 1 5
tie 1 t 1 2 5
tie 2 t 0 2 10
tie 3 t 0 2 11
tie 4 u 0 2 1
tie 5 t 2 2 1
tie 6 t 2 0 1
tie 7 v 3 4 1000
tie 8 u 3 2 7
tie 9 t 0 1 5""")
KINDS = ((), [], ("t",), ["u"], ("t", "u"), ("u", "t", "t"), ("t", "u", "v"), ["z"], ("t", "z"))


def second_weights(web, knot, kinds):
    """Weights by going over all ties until nothing gets less."""
    weights, again = {knot: 0}, True
    while again:
        again = False
        for _, kind, start, end, weight in rows_of(web)[1]:
            if kind in kinds and start in weights and weights[start] + weight < weights.get(end, 10 ** 9):
                weights[end], again = weights[start] + weight, True
    return weights


def last_ties(web, kinds, weights, knot):
    """All ties by which a knot is come to by its least weight."""
    return [tie for tie, kind, start, end, weight in rows_of(web)[1]
            if kind in kinds and end == knot and start in weights and weights[start] + weight == weights[knot]]


def is_least_too(web, knot, kinds, told):
    weights = second_weights(web, knot, kinds)
    if any(type(far) is not int for far in told) or set(told) != set(weights):
        return False
    for far, pair in told.items():
        if type(pair) is not tuple or len(pair) != 2 or type(pair[0]) is not int or pair[0] != weights[far]:
            return False
        if far == knot:
            if pair[1] is not None:
                return False
        elif type(pair[1]) is not int or pair[1] not in last_ties(web, kinds, weights, far):
            return False
    return True


def second_parts(web, kinds):
    """Each knot's number becomes that of its neighbours, until nothing gets less."""
    found = {knot: knot for knot in web.knots()}
    for _ in found:
        for _, kind, start, end, _ in rows_of(web)[1]:
            if kind in kinds:
                found[start] = found[end] = min(found[start], found[end])
    return found


def bent(told, web):
    """Dicts that are otherwise than a told one in one place."""
    pool = [None, True, False, 0, 1, -1, 5, 1000, HUGE, "a", "", (), (0,), (0, None), [], [0, None], {}]
    for far, pair in told.items():
        yield {key: value for key, value in told.items() if key != far}
        for other in pool + [list(pair), pair + (None,), pair[:1], pair[::-1], (pair, pair)]:
            yield {**told, far: other}
        for other in pool + [pair[0] + 1, pair[0] - 1, str(pair[0]), bool(pair[0])]:
            yield {**told, far: (other, pair[1])}
        for other in pool + web.ties() + [500, str(pair[1]), (pair[1],)]:
            yield {**told, far: (pair[0], other)}
        for key in (True, False, None, "a", str(far), (far,), 500, -1, -far, HUGE):
            yield {**{other: told[other] for other in told if other != far}, key: pair}
            yield {**{other: told[other] for other in told if other != key}, key: pair}
    for knot in [knot for knot in web.knots() if knot not in told] + [999, "b", None]:
        yield {**told, knot: (1, 0)}
        yield {**told, knot: (0, None)}
        yield {**told, knot: None}
    yield {}


class Least(unittest.TestCase):
    def test_told(self):
        self.assertEqual(least(WEB, 0, ("t",)), {0: (0, None), 1: (5, 0), 2: (10, least(WEB, 0, ("t",))[2][1])})
        self.assertIn(least(WEB, 0, ("t",))[2][1], (1, 2))
        self.assertIn(least(WEB, 0, ("t",))[1][1], (0, 9))
        self.assertEqual(least(WEB, 0, ("u",)), {0: (0, None), 2: (1, 4)})
        self.assertEqual(least(WEB, 3, ["u"]), {3: (0, None), 2: (7, 8)})
        self.assertEqual(least(WEB, 3, ["v"]), {3: (0, None), 4: (1000, 7)})
        self.assertEqual(least(WEB, 4, ["v"]), {4: (0, None)})
        self.assertEqual({far: pair[0] for far, pair in least(WEB, 3, ["u", "t"]).items()}, {3: 0, 2: 7, 0: 8, 1: 13})

    def test_a_tie_to_itself_leads_nowhere_else(self):
        self.assertEqual(least(WEB, 2, ("t",))[2], (0, None))
        self.assertEqual(least(Web([(5, "a", {})], [(1, "t", 5, 5, 1)]), 5, ["t"]), {5: (0, None)})

    def test_no_kinds_and_kinds_that_nothing_has(self):
        for kinds in ((), [], ("z",), ["zz", "a"]):
            for knot in WEB.knots():
                self.assertEqual(least(WEB, knot, kinds), {knot: (0, None)})

    def test_beside_a_second_way(self):
        chance = random.Random(34)
        far_ones = 0
        for _ in range(300):
            web = some_web(chance, knots=9, ties=24)
            kinds = chance.choice(((), ("t",), ["u"], ("t", "u"), ["u", "z"]))
            for knot in web.knots():
                told = least(web, knot, kinds)
                weights = second_weights(web, knot, kinds)
                self.assertEqual({far: pair[0] for far, pair in told.items()}, weights)
                for far, (_, tie) in told.items():
                    self.assertTrue(tie is None if far == knot else tie in last_ties(web, kinds, weights, far))
                self.assertIs(is_least(web, knot, kinds, told), True)
                self.assertEqual({type(pair) for pair in told.values()}, {tuple})
                far_ones += len(told) > 3
        self.assertGreater(far_ones, 100)

    def test_a_shorter_way_that_is_found_late(self):
        web = Web([(knot, "a", {}) for knot in range(5)],
                  [(0, "t", 0, 4, 100), (1, "t", 0, 1, 1), (2, "t", 1, 2, 1), (3, "t", 2, 3, 1), (4, "t", 3, 4, 1), (5, "t", 0, 3, 50)])
        self.assertEqual(least(web, 0, ["t"]), {0: (0, None), 1: (1, 1), 2: (2, 2), 3: (3, 3), 4: (4, 4)})

    def test_no_knot(self):
        for asked in anything() + [5, 8, 10, -1, "0", (0,), [0]]:
            if type(asked) is int and asked in WEB.knots():
                continue
            for ask in (lambda: least(WEB, asked, ("t",)), lambda: is_least(WEB, asked, ("t",), {0: (0, None)}),
                        lambda: is_least(WEB, asked, ("t",), {})):
                with self.assertRaises(NoKnot) as caught:
                    ask()
                self.assertIs(caught.exception.asked, asked)

    def test_what_is_handed_in_stays_and_what_is_told_is_the_askers_own(self):
        kinds, ahead = ["t", "u"], rows_of(WEB)
        told = least(WEB, 0, kinds)
        again = least(WEB, 0, kinds)
        told.clear()
        self.assertEqual(least(WEB, 0, kinds), again)
        found = parts(WEB, kinds)
        found[0] = 99
        self.assertEqual(parts(WEB, kinds)[0], 0)
        self.assertEqual((kinds, rows_of(WEB)), (["t", "u"], ahead))


class IsLeast(unittest.TestCase):
    def test_any_last_tie(self):
        told = {0: (0, None), 1: (5, 0), 2: (10, 1)}
        for first in (0, 9):
            for second in (1, 2):
                self.assertIs(is_least(WEB, 0, ("t",), {0: (0, None), 1: (5, first), 2: (10, second)}), True)
        self.assertIs(is_least(WEB, 0, ["t"], {2: (10, 1), 1: (5, 0), 0: (0, None)}), True)
        for far, pair in ((2, (10, 3)), (2, (11, 3)), (2, (10, 4)), (2, (10, 5)), (1, (5, 1)), (0, (0, 6)), (0, (11, 6)), (1, (6, 0))):
            self.assertIs(is_least(WEB, 0, ("t",), {**told, far: pair}), False)

    def test_ties_of_other_kinds_and_of_knots_that_are_not_come_to(self):
        self.assertIs(is_least(WEB, 0, ("u",), {0: (0, None), 2: (1, 4)}), True)
        self.assertIs(is_least(WEB, 0, ("u",), {0: (0, None), 2: (1, 8)}), False)
        self.assertIs(is_least(WEB, 0, ("t", "u"), {0: (0, None), 2: (1, 4), 1: (5, 9)}), True)
        self.assertIs(is_least(WEB, 0, (), {0: (0, None)}), True)
        self.assertIs(is_least(WEB, 0, (), {}), False)

    def test_a_tie_of_another_kind_by_as_much(self):
        web = Web([(0, "a", {}), (1, "a", {})], [(2, "t", 0, 1, 5), (3, "u", 0, 1, 5), (4, "t", 1, 0, 5)])
        self.assertEqual([is_least(web, 0, ("t",), {0: (0, None), 1: (5, tie)}) for tie in (2, 3, 4)], [True, False, False])
        self.assertEqual([is_least(web, 0, ("t", "u"), {0: (0, None), 1: (5, tie)}) for tie in (2, 3, 4)], [True, True, False])

    def test_truths_are_no_numbers(self):
        web = Web([(0, "a", {}), (1, "a", {})], [(0, "t", 1, 0, 1), (1, "t", 0, 1, 1)])
        self.assertIs(is_least(web, 0, ("t",), {0: (0, None), 1: (1, 1)}), True)
        for wrong in ({False: (0, None), 1: (1, 1)}, {0: (0, None), True: (1, 1)}, {0: (False, None), 1: (1, 1)},
                      {0: (0, None), 1: (True, 1)}, {0: (0, None), 1: (1, True)}, {0: (0, False), 1: (1, 1)}):
            self.assertIs(is_least(web, 0, ("t",), wrong), False)
        self.assertIs(is_least(web, 1, ("t",), {1: (0, None), 0: (1, 0)}), True)
        self.assertIs(is_least(web, 1, ("t",), {1: (0, None), 0: (1, False)}), False)

    def test_bent_in_one_place(self):
        chance = random.Random(341)
        counts = {True: 0, False: 0}
        webs = [WEB] + [some_web(chance, knots=6, ties=12) for _ in range(25)]
        for web in webs:
            for knot in web.knots()[:3]:
                kinds = chance.choice(KINDS)
                for told in bent(least(web, knot, kinds), web):
                    ahead = copy.deepcopy(told)
                    found = is_least(web, knot, kinds, told)
                    self.assertIs(found, is_least_too(web, knot, kinds, told))
                    self.assertEqual(told, ahead)
                    counts[found] += 1
        self.assertGreater(counts[True], 100)
        self.assertGreater(counts[False], 5000)

    def test_whatever_is_in_it(self):
        for thing in anything():
            self.assertIs(is_least(WEB, 0, ("t",), {0: thing}), False)
            self.assertIs(is_least(WEB, 0, (), {0: thing}), False)
            self.assertIs(is_least(WEB, 0, (), {0: (thing, None)}), type(thing) is int and thing == 0)
            self.assertIs(is_least(WEB, 0, (), {0: (0, thing)}), thing is None)
            if not isinstance(thing, (list, dict)) and thing != ([],) and thing != ({},):
                self.assertIs(is_least(WEB, 0, (), {thing: (0, None)}), type(thing) is int and thing == 0)
                self.assertIs(is_least(WEB, 0, (), {0: (0, None), thing: 1}), False)


class Parts(unittest.TestCase):
    def test_told(self):
        self.assertEqual(parts(WEB, ("t",)), {0: 0, 1: 0, 2: 0, 3: 3, 4: 4, 9: 9})
        self.assertEqual(parts(WEB, ["u"]), {0: 0, 1: 1, 2: 0, 3: 0, 4: 4, 9: 9})
        self.assertEqual(parts(WEB, ["v"]), {0: 0, 1: 1, 2: 2, 3: 3, 4: 3, 9: 9})
        self.assertEqual(parts(WEB, ("v", "u", "t")), {0: 0, 1: 0, 2: 0, 3: 0, 4: 0, 9: 9})
        for kinds in ((), [], ["z"]):
            self.assertEqual(parts(WEB, kinds), {knot: knot for knot in WEB.knots()})
        self.assertEqual(parts(Web(), ("t",)), {})

    def test_whichever_way_ties_go(self):
        turned = Web(rows_of(WEB)[0], [(tie, kind, end, start, weight) for tie, kind, start, end, weight in rows_of(WEB)[1]])
        for kinds in KINDS:
            self.assertEqual(parts(turned, kinds), parts(WEB, kinds))

    def test_beside_a_second_way(self):
        chance = random.Random(342)
        for _ in range(300):
            web = some_web(chance, knots=10, ties=8)
            for kinds in ((), ("t",), ["u"], ("t", "u", "z")):
                self.assertEqual(parts(web, kinds), second_parts(web, kinds))

    def test_large(self):
        knots = [(knot, "a", {}) for knot in range(60)]
        web = Web(knots, [(knot, "t", knot + 1, knot, 1000) for knot in range(59)])
        self.assertEqual(parts(web, ["t"]), {knot: 0 for knot in range(60)})
        self.assertEqual(least(web, 59, ["t"])[0], (59000, 0))
        self.assertEqual(least(web, 0, ["t"]), {0: (0, None)})


class OfAStore(unittest.TestCase):
    def test_of_what_an_asker_sees(self):
        store = begun()
        for asker in ("ann", "bob", None):
            for moment in (0, 1, 2, None):
                web = store.web(asker=asker, moment=moment)
                for kinds in (("t",), ["t", "u"], ()):
                    self.assertEqual(store.parts(kinds, asker=asker, moment=moment), parts(web, kinds))
                    for knot in web.knots():
                        told = store.least(knot, kinds, asker=asker, moment=moment)
                        self.assertEqual(told, least(web, knot, kinds))
                        self.assertIs(is_least_too(web, knot, kinds, told), True)
        self.assertEqual(store.least(0, ("t",)), {0: (0, None), 1: (2, 6), 2: (6, 2)})
        self.assertEqual(store.least(0, ("t",), asker="ann"), {0: (0, None)})
        self.assertEqual(store.parts(("t",)), {0: 0, 1: 0, 2: 0, 8: 0, 3: 3, 15: 3})
        self.assertEqual(store.parts(("t",), asker="ann"), {0: 0, 2: 2, 8: 0, 3: 3, 15: 3})

    def test_a_barred_knot_is_none(self):
        store = begun()
        for asked in (1, 99, True, None, "a", [1]):
            with self.assertRaises(NoKnot) as caught:
                store.least(asked, ("t",), asker="ann")
            self.assertIs(caught.exception.asked, asked)
        self.assertEqual(store.least(1, ("t",)), {1: (0, None), 2: (4, 2)})


if __name__ == "__main__":
    unittest.main()
