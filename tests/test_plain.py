"""Point 19: the plain search."""

import copy
import random
import unittest

from tests.asking import Second, rows_of, some_question, some_web
from websplit.plain import answer
from websplit.questions import need_question
from websplit.webs import Web
from websplit.webtexts import read_web

WEB = read_web("""knot 1 a p=5 q=rome
knot 2 a p=7
knot 3 b p=five
knot 10 b q=oslo
knot 20 c
tie 1 t 1 2 1
tie 2 t 2 3 1
tie 3 t 3 10 1
tie 4 t 10 20 1
tie 5 u 2 2 1
tie 6 u 20 1 1
tie 7 t 1 2 9""")
RING = read_web("knot 1 a\nknot 2 a\nknot 3 a\nknot 4 b\ntie 1 t 1 2 1\ntie 2 t 2 3 1\ntie 3 t 3 1 1\ntie 4 t 4 4 1")


class Search(unittest.TestCase):
    def assert_answer(self, shown, rows, told, web=WEB):
        question = (shown, rows)
        need_question(question)
        self.assertEqual(answer(web, question), told)
        self.assertEqual(answer(web=web, question=question), Second(web).answer(question))

    def knots(self, *rows, web=WEB):
        """The knots that are told for x."""
        need_question((("x",), rows))
        told = answer(web, (("x",), rows))
        self.assertEqual(told, Second(web).answer((("x",), rows)))
        return [knot for knot, in told]


class EachSort(Search):
    def test_knot_and_any(self):
        self.assertEqual(self.knots(("knot", "x", "a")), [1, 2])
        self.assertEqual(self.knots(("knot", "x", "z")), [])
        self.assertEqual(self.knots(("any", "x")), [1, 2, 3, 10, 20])
        self.assertEqual(self.knots(("any", "x"), ("knot", "x", "b"), ("any", "x")), [3, 10])
        self.assertEqual(self.knots(("knot", "x", "a"), ("knot", "x", "b")), [])

    def test_holds(self):
        def held(*row):
            return self.knots(("any", "x"), ("holds", "x", *row))

        self.assertEqual(held("p", "same", 5), [1])
        self.assertEqual([held("p", "less", k) for k in (5, 6, 7, 8)], [[], [1], [1], [1, 2]])
        self.assertEqual([held("p", "more", k) for k in (4, 5, 6, 7)], [[1, 2], [2], [2], []])
        self.assertEqual(held("q", "same", "rome"), [1])
        self.assertEqual([held("q", "less", text) for text in ("oslo", "oslob", "rome", "romf", "z")],
                         [[], [10], [10], [1, 10], [1, 10]])
        self.assertEqual([held("q", "more", text) for text in ("a", "oslo", "osln", "rom", "rome")],
                         [[1, 10], [1], [1, 10], [1], []])
        self.assertEqual(held("z", "same", 5), [])

    def test_numbers_beside_texts(self):
        for word in ("same", "less", "more"):
            self.assertEqual(self.knots(("any", "x"), ("holds", "x", "q", word, 0)), [])
            self.assertEqual(self.knots(("knot", "x", "a"), ("holds", "x", "p", word, "five")), [])
        self.assertEqual(self.knots(("any", "x"), ("holds", "x", "p", "same", "five")), [3])
        self.assertEqual(self.knots(("any", "x"), ("holds", "x", "p", "less", 999999999)), [1, 2])
        self.assertEqual(self.knots(("any", "x"), ("holds", "x", "p", "more", "a")), [3])

    def test_tie(self):
        self.assert_answer(("x", "y"), (("tie", "x", "t", "y"),), [(1, 2), (2, 3), (3, 10), (10, 20)])
        self.assert_answer(("y", "x"), (("tie", "x", "t", "y"),), [(2, 1), (3, 2), (10, 3), (20, 10)])
        self.assert_answer(("x", "y"), (("tie", "y", "u", "x"),), [(1, 20), (2, 2)])
        self.assertEqual(self.knots(("tie", "x", "u", "x")), [2])
        self.assertEqual(self.knots(("tie", "x", "t", "x")), [])
        self.assertEqual(self.knots(("tie", "x", "z", "y")), [])
        self.assertEqual(self.knots(("knot", "x", "b"), ("tie", "x", "t", "y"), ("knot", "y", "b")), [3])
        self.assert_answer(("x", "y"), (("tie", "x", "t", "y"), ("tie", "y", "u", "y")), [(1, 2)])

    def test_way(self):
        def ends(most):
            return self.knots(("way", "y", "t", "x", most), ("holds", "y", "p", "same", 5))

        self.assertEqual([ends(most) for most in (1, 2, 3, 4)], [[2], [2, 3], [2, 3, 10], [2, 3, 10, 20]])
        self.assertEqual([self.knots(("way", "x", "t", "y", most), ("knot", "y", "c")) for most in (1, 2, 3, 4)],
                         [[10], [3, 10], [2, 3, 10], [1, 2, 3, 10]])
        self.assertEqual(self.knots(("way", "x", "u", "y", 4), ("knot", "y", "c")), [])
        self.assert_answer(("x", "y"), (("way", "x", "u", "y", 4),), [(2, 2), (20, 1)])

    def test_loops(self):
        self.assertEqual([self.knots(("way", "x", "t", "x", most), web=RING) for most in (1, 2, 3, 4)],
                         [[4], [4], [1, 2, 3, 4], [1, 2, 3, 4]])
        self.assert_answer(("x", "y"), (("way", "x", "t", "y", 2),), [(1, 2), (1, 3), (2, 1), (2, 3), (3, 1), (3, 2), (4, 4)],
                           web=RING)
        self.assert_answer((), (("any", "x"), ("way", "x", "t", "x", 2), ("knot", "x", "a")), [], web=RING)

    def test_unlike(self):
        self.assert_answer(("x", "y"), (("knot", "x", "a"), ("knot", "y", "a"), ("unlike", "x", "y")), [(1, 2), (2, 1)])
        self.assertEqual(self.knots(("any", "x"), ("unlike", "x", "x")), [])
        self.assertEqual(self.knots(("tie", "x", "u", "y"), ("unlike", "y", "x")), [20])

    def test_no(self):
        self.assertEqual(self.knots(("any", "x"), ("no", (("tie", "x", "t", "y"),))), [20])
        self.assertEqual(self.knots(("any", "x"), ("no", (("tie", "y", "t", "x"),))), [1])
        self.assertEqual(self.knots(("any", "x"), ("no", (("tie", "x", "t", "y"), ("knot", "y", "b")))), [1, 10, 20])
        self.assertEqual(self.knots(("any", "x"), ("no", (("holds", "x", "p", "more", 0),))), [3, 10, 20])
        self.assertEqual(self.knots(("any", "x"), ("no", (("knot", "x", "a"), ("tie", "x", "u", "x")))), [1, 3, 10, 20])
        self.assertEqual(self.knots(("any", "x"), ("no", (("any", "x"),))), [])
        self.assertEqual(self.knots(("any", "x"), ("no", (("unlike", "x", "x"),))), [1, 2, 3, 10, 20])
        self.assert_answer(("x", "y"), (("tie", "x", "t", "y"), ("no", (("tie", "y", "u", "x"),)), ("no", (("tie", "y", "u", "y"),))),
                           [(2, 3), (3, 10), (10, 20)])

    def test_no_with_variables_of_its_own_alone(self):
        for kind, told in (("a", []), ("z", [1, 2, 3, 10, 20])):
            self.assertEqual(self.knots(("any", "x"), ("no", (("knot", "y", kind),))), told)
        self.assert_answer((), (("no", (("knot", "y", "z"),)),), [()])
        self.assert_answer((), (("no", (("knot", "y", "a"),)),), [])
        self.assert_answer((), (("no", (("tie", "y", "t", "w"), ("tie", "w", "u", "y"))),), [()])


class Shown(Search):
    def test_none_shown(self):
        self.assert_answer((), (("knot", "x", "a"),), [()])
        self.assert_answer((), (("knot", "x", "z"),), [])

    def test_shown_twice_and_turned(self):
        self.assert_answer(("x", "x"), (("knot", "x", "a"),), [(1, 1), (2, 2)])
        self.assert_answer(("y", "x", "y", "x"), (("tie", "x", "u", "y"),), [(1, 20, 1, 20), (2, 2, 2, 2)])

    def test_nothing_stands_twice_though_found_twice(self):
        self.assertEqual(self.knots(("any", "x"), ("any", "y"), ("any", "z")), [1, 2, 3, 10, 20])
        self.assert_answer(("y",), (("tie", "x", "t", "y"), ("holds", "x", "p", "same", 5)), [(2,)])

    def test_rising_by_numbers(self):
        web = Web([(knot, "a", {}) for knot in (100, 9, 10, 99, 0)], [(tie, "t", 9, tie, 1) for tie in (100, 99, 10, 0)])
        self.assertEqual(self.knots(("any", "x"), web=web), [0, 9, 10, 99, 100])
        self.assert_answer(("x", "y"), (("tie", "x", "t", "y"),), [(9, 0), (9, 10), (9, 99), (9, 100)], web=web)

    def test_the_empty_web(self):
        self.assert_answer(("x",), (("any", "x"),), [], web=Web())
        self.assert_answer((), (("any", "x"),), [], web=Web())
        self.assert_answer((), (("no", (("any", "x"),)),), [()], web=Web())
        self.assert_answer((), (("way", "x", "t", "y", 4), ("no", (("any", "z"),))), [], web=Web())

    def test_variables_of_other_names_tell_the_same(self):
        for first, second in (("x", "y"), ("y", "x"), ("abcdefgh", "a"), ("t", "u")):
            for rows in ((("tie", first, "t", second), ("knot", first, "a")), (("way", first, "t", second, 2), ("any", second))):
                told = [pair for pair in Second(WEB).answer(((first, second), rows))]
                self.assert_answer((first, second), rows, told)


class BesideASecondSearch(unittest.TestCase):
    def test_questions_by_chance(self):
        chance = random.Random(190)
        full, words = 0, set()
        for at in range(1500):
            web = some_web(chance, knots=4 if at % 3 else 6)
            question = some_question(chance, variables=4 if at % 3 else 3)
            rows, ahead = copy.deepcopy(rows_of(web)), copy.deepcopy(question)
            told = answer(web, question)
            self.assertEqual(told, Second(web).answer(question), (rows, question))
            self.assertEqual((rows_of(web), question), (rows, ahead))
            self.assertEqual((type(told), {type(line) for line in told} - {tuple}), (list, set()))
            full += bool(told)
            words |= {row[0] for row in question[1]} if told else set()
        self.assertGreater(full, 300)
        self.assertEqual(words, {"knot", "any", "holds", "tie", "way", "unlike", "no"})

    def test_what_is_told_is_the_askers_own(self):
        question = (("x",), (("knot", "x", "a"),))
        answer(WEB, question).append(5)
        self.assertEqual(answer(WEB, question), [(1,), (2,)])

    def test_a_web_at_its_bounds(self):
        knots = [(knot, "a", {}) for knot in range(60)]
        web = Web(knots, [(tie, "t", tie % 60, (tie * 7 + 1) % 60, 1) for tie in range(120)])
        four = tuple(("any", name) for name in "xyzw")
        self.assertEqual(answer(web, ((), four)), [()])
        self.assertEqual(len(answer(web, (("w",), four))), 60)
        self.assertEqual(answer(web, (("x",), four + (("holds", "w", "p", "same", 1),))), [])
        chain = (("way", "x", "t", "y", 4), ("way", "y", "t", "z", 4), ("way", "z", "t", "w", 4), ("unlike", "x", "w"))
        self.assertEqual(len(answer(web, (("x",), chain))), 60)


if __name__ == "__main__":
    unittest.main()
