"""Points 25 and 26: bars, and the web that they leave."""

import copy
import random
import unittest

from tests.samples import HUGE, anything, nested, some_rows
from websplit.errors import NoKnot, NoTie
from websplit.rights import is_bar, seen
from websplit.webs import Web
from websplit.webtexts import read_web

TEXT = """knot 1 person age=30 town=rome
knot 2 person age=31 town=rome
knot 3 town age=30
knot 4 house town=paris
tie 1 knows 1 2 5
tie 2 knows 2 1 5
tie 3 lives 1 3 7
tie 4 lives 2 4 7
tie 5 knows 1 1 1"""


def left(web, bars):
    """A second search of what the bars leave: rows of knots, rows of ties."""
    knots = []
    for knot in web.knots():
        worths = web.worths(knot)
        held = [("kind", web.kind(knot)), ("one", knot)] + [("holding", name, worths[name]) for name in worths]
        if not [bar for bar in held if bar in bars]:
            knots.append((knot, web.kind(knot), {n: w for n, w in worths.items() if ("name", n) not in bars}))
    numbers = [row[0] for row in knots]
    rows = [(tie, *web.tie(tie)) for tie in web.ties()]
    ties = [row for row in rows if ("ties", row[1]) not in bars and row[2] in numbers and row[3] in numbers]
    return knots, ties


class Bars(unittest.TestCase):
    def test_each_sort_at_its_ends(self):
        yes = [("kind", "a"), ("kind", "abcdefgh"), ("ties", "z"), ("ties", "abcdefgh"), ("name", "a"),
               ("name", "abcdefgh"), ("one", 0), ("one", 999), ("holding", "a", 0), ("holding", "abcdefgh", "abcdefghijkl"),
               ("holding", "a", 999999999), ("holding", "a", -999999999), ("holding", "holding", "a"), ("kind", "one")]
        for bar in yes:
            self.assertIs(is_bar(bar), True, bar)
        self.assertIs(is_bar(thing=("one", 5)), True)

    def test_one_beyond(self):
        no = [("one", -1), ("one", 1000), ("one", HUGE), ("one", True), ("one", False), ("one", None), ("one", "a"),
              ("one",), ("one", 1, 1), ("one", (1,)), ("one", [1]), ("one", {}),
              ("holding", "a"), ("holding", "a", 1, 1), ("holding", "a", 1000000000), ("holding", "a", -1000000000),
              ("holding", "a", "abcdefghijklm"), ("holding", "a", ""), ("holding", "a", True), ("holding", "a", None),
              ("holding", "a", (1,)), ("holding", "a", [1]), ("holding", "", 1), ("holding", "abcdefghi", 1),
              ("holding", 1, 1), ("holding", None, 1), ("holding", [], 1), (), ("kind",), ("a", "b"), ("Kind", "a"),
              ("", "a"), (None, "a"), (1, "a"), ([], "a"), ({}, "a"), ((), "a"), ("bar", "a"), ("worth", "a", 1)]
        for word in ("kind", "ties", "name"):
            no += [(word,), (word, "a", "a"), (word, "a", 1), [word, "a"]]
            no += [(word, wrong) for wrong in ("", "abcdefghi", "A", "a\n", 1, 0, True, None, (), ("a",), [], ["a"], {})]
        no += [["one", 1], ["holding", "a", 1], "one", "kind", {"kind": "a"}, (("one", 1),), nested(16), nested(16, list)]
        for at, thing in enumerate(no):
            self.assertIs(is_bar(thing), False, f"at {at}")

    def test_of_anything(self):
        samples = anything()
        ahead = copy.deepcopy(samples)
        for sample in samples:
            self.assertIs(is_bar(sample), False)
            self.assertIs(is_bar((sample,)), False)
            self.assertIs(is_bar((sample, sample)), False)
            self.assertIs(is_bar((sample, "a", 1)), False)
        self.assertEqual(samples, ahead)


class Seen(unittest.TestCase):
    def numbers(self, *bars):
        web = seen(read_web(TEXT), bars)
        return web.knots(), web.ties()

    def test_each_sort(self):
        self.assertEqual(self.numbers(), ([1, 2, 3, 4], [1, 2, 3, 4, 5]))
        self.assertEqual(self.numbers(("kind", "person")), ([3, 4], []))
        self.assertEqual(self.numbers(("kind", "town")), ([1, 2, 4], [1, 2, 4, 5]))
        self.assertEqual(self.numbers(("ties", "knows")), ([1, 2, 3, 4], [3, 4]))
        self.assertEqual(self.numbers(("one", 1)), ([2, 3, 4], [4]))
        self.assertEqual(self.numbers(("one", 4)), ([1, 2, 3], [1, 2, 3, 5]))
        self.assertEqual(self.numbers(("holding", "age", 30)), ([2, 4], [4]))
        self.assertEqual(self.numbers(("holding", "town", "paris")), ([1, 2, 3], [1, 2, 3, 5]))
        self.assertEqual(self.numbers(("name", "age")), ([1, 2, 3, 4], [1, 2, 3, 4, 5]))

    def test_what_names_nothing_bars_nothing(self):
        bars = [("kind", "knows"), ("ties", "person"), ("name", "person"), ("one", 5), ("one", 999),
                ("holding", "age", 3), ("holding", "town", "age"), ("holding", "rome", "town"), ("kind", "age")]
        self.assertEqual(seen(read_web(TEXT), bars), read_web(TEXT))

    def test_worths(self):
        web = seen(read_web(TEXT), [("name", "age")])
        self.assertEqual([web.worths(knot) for knot in (1, 2, 3, 4)],
                         [{"town": "rome"}, {"town": "rome"}, {}, {"town": "paris"}])
        self.assertEqual(web.kind(3), "town")

    def test_a_knot_is_barred_by_a_worth_whose_name_is_barred(self):
        for bars in ([("name", "age"), ("holding", "age", 30)], [("holding", "age", 30), ("name", "age")]):
            web = seen(read_web(TEXT), bars)
            self.assertEqual((web.knots(), web.worths(2)), ([2, 4], {"town": "rome"}))

    def test_kind_and_weight_of_what_is_left_stay(self):
        web = seen(read_web(TEXT), [("one", 3)])
        self.assertEqual((web.kind(1), web.worths(1)), ("person", {"age": 30, "town": "rome"}))
        self.assertEqual((web.tie(4), web.tie(5)), (("lives", 2, 4, 7), ("knows", 1, 1, 1)))

    def test_what_is_barred_is_refused_as_if_it_were_not_there(self):
        web = seen(read_web(TEXT), [("one", 1), ("ties", "lives")])
        for ask in (web.kind, web.worths, web.outs, web.ins):
            with self.assertRaises(NoKnot) as caught:
                ask(1)
            self.assertEqual(caught.exception.asked, 1)
        for tie in (1, 3, 4, 5, 6):
            with self.assertRaises(NoTie) as caught:
                web.tie(tie)
            self.assertEqual(caught.exception.asked, tie)
        self.assertEqual((web.outs(2), web.ins(2)), ([], []))

    def test_any_bars_in_any_order(self):
        chance = random.Random(26)
        for _ in range(600):
            rows = some_rows(chance, chance.randint(0, 12), 0)
            rows = some_rows(chance, len(rows[0]), chance.randint(0, 20) if rows[0] else 0)
            web = Web(*rows)
            pool = [("kind", "person"), ("kind", "town"), ("ties", "knows"), ("ties", "lives"), ("name", "age"),
                    ("name", "town"), ("one", 9), ("one", 210), ("holding", "age", 0), ("holding", "a", "a"),
                    ("holding", "town", "rome"), ("holding", "x", 9)]
            pool += [("one", knot) for knot in web.knots()[:2]]
            pool += [("holding", name, worth) for knot in web.knots()[:3] for name, worth in web.worths(knot).items()]
            bars = chance.sample(pool, chance.randint(0, 5))
            told = Web(*left(web, bars))
            self.assertEqual(seen(web, bars), told)
            mixed = bars + [bar for bar in bars if chance.random() < 0.5]
            chance.shuffle(mixed)
            self.assertEqual(seen(web, mixed), told)
            self.assertEqual(seen(bars=tuple(mixed), web=web), told)
            self.assertEqual(web, Web(*rows))

    def test_what_is_handed_in_stays_and_what_is_told_is_new(self):
        web, bars = read_web(TEXT), [("one", 1), ("name", "age"), ("one", 1)]
        seen(web, bars)
        self.assertEqual((web, bars), (read_web(TEXT), [("one", 1), ("name", "age"), ("one", 1)]))
        self.assertIsNot(seen(web, ()), web)
        self.assertEqual(seen(Web(), bars), Web())


if __name__ == "__main__":
    unittest.main()
