"""Point 20: plans."""

import copy
import itertools
import random
import unittest

from tests.asking import Second, is_told_order, some_question, some_web, told_plan
from tests.samples import HUGE, anything
from websplit.errors import NoPlan
from websplit.plain import answer
from websplit.plans import answer_by, plan
from websplit.questions import need_question
from websplit.webs import Web
from websplit.webtexts import read_web

WEB = read_web("knot 1 a p=5\nknot 2 a\nknot 3 b p=6\ntie 1 t 1 2 1\ntie 2 t 2 3 1\ntie 3 u 3 3 1")


class Told(unittest.TestCase):
    def assert_plan(self, rows, order, shown=()):
        need_question((shown, rows))
        self.assertEqual(plan((shown, rows)), order)
        self.assertEqual(told_plan(rows), order)
        self.assertIs(type(plan(question=(shown, rows))), tuple)

    def test_what_is_bound_goes_first_as_written(self):
        self.assert_plan((("any", "x"), ("holds", "x", "p", "same", 1), ("knot", "x", "a"), ("unlike", "x", "x")), (2, 0, 1, 3))
        self.assert_plan((("holds", "x", "p", "same", 1), ("any", "x"), ("any", "x")), (1, 0, 2))
        self.assert_plan((("unlike", "x", "y"), ("knot", "x", "a"), ("any", "y"), ("any", "x")), (1, 3, 2, 0))

    def test_then_a_tie_or_way_with_one_bound(self):
        rows = (("knot", "x", "a"), ("knot", "z", "a"), ("way", "y", "t", "w", 1), ("tie", "y", "t", "x"))
        self.assert_plan(rows, (0, 3, 2, 1))
        self.assert_plan((("knot", "x", "a"), ("way", "y", "t", "x", 1), ("tie", "x", "t", "z")), (0, 1, 2))
        self.assert_plan((("knot", "x", "a"), ("tie", "x", "t", "z"), ("way", "y", "t", "x", 1)), (0, 1, 2))
        self.assert_plan((("tie", "x", "t", "y"), ("tie", "x", "u", "y"), ("knot", "y", "a")), (2, 0, 1))

    def test_then_a_knot_row(self):
        self.assert_plan((("any", "x"), ("tie", "x", "t", "y"), ("knot", "y", "a")), (2, 1, 0))
        self.assert_plan((("any", "z"), ("knot", "y", "a"), ("knot", "x", "a")), (1, 2, 0))

    def test_then_any_tie_or_way(self):
        self.assert_plan((("tie", "x", "t", "y"), ("any", "z"), ("way", "w", "t", "w", 1)), (0, 1, 2))
        self.assert_plan((("way", "w", "t", "w", 1), ("any", "z"), ("tie", "x", "t", "y")), (0, 1, 2))
        self.assert_plan((("any", "z"), ("way", "w", "t", "w", 1), ("tie", "z", "t", "y")), (0, 2, 1))
        self.assert_plan((("holds", "z", "p", "same", 1), ("any", "x"), ("any", "z")), (1, 2, 0))

    def test_a_row_of_one_variable_twice(self):
        self.assert_plan((("tie", "y", "t", "y"), ("knot", "x", "a"), ("knot", "y", "a")), (1, 2, 0))
        self.assert_plan((("knot", "y", "a"), ("tie", "z", "t", "y"), ("way", "y", "t", "y", 2)), (0, 2, 1))

    def test_no_counts_by_what_stands_outside(self):
        own = ("no", (("tie", "z", "t", "w"), ("any", "z")))
        self.assert_plan((("any", "x"), own), (1, 0))
        self.assert_plan((("any", "x"), ("any", "y"), ("no", (("tie", "x", "t", "z"),))), (0, 2, 1))
        self.assert_plan((("no", (("tie", "x", "t", "y"),)), ("any", "x"), ("any", "y")), (1, 2, 0))
        self.assert_plan((("no", (("tie", "x", "t", "z"), ("knot", "z", "a"))), ("any", "y"), ("any", "x")), (1, 2, 0))
        self.assert_plan((own,), (0,))

    def test_no_binds_nothing(self):
        self.assert_plan((("no", (("any", "z"),)), ("tie", "y", "t", "x"), ("any", "x")), (0, 1, 2))
        self.assert_plan((("any", "x"), ("no", (("tie", "x", "t", "y"),)), ("knot", "y", "a"), ("holds", "y", "p", "same", 1)),
                         (2, 3, 0, 1))

    def test_what_is_shown_changes_nothing(self):
        rows = (("any", "x"), ("knot", "y", "a"))
        for shown in ((), ("x",), ("y", "x", "y")):
            self.assert_plan(rows, (1, 0), shown)

    def test_beside_a_second_plan(self):
        chance = random.Random(20)
        for _ in range(1500):
            question = some_question(chance)
            ahead = copy.deepcopy(question)
            order = plan(question)
            self.assertEqual(order, told_plan(question[1]), question)
            self.assertTrue(is_told_order(question[1], order))
            self.assertEqual(question, ahead)


class Searched(unittest.TestCase):
    def assert_refused(self, web, question, order):
        ahead = copy.deepcopy(order)
        with self.assertRaises(NoPlan) as caught:
            answer_by(web, question, order)
        self.assertIs(type(caught.exception), NoPlan)
        self.assertEqual(order, ahead)

    def assert_by(self, web, question, order, told):
        for kind in (list, tuple):
            if is_told_order(question[1], order):
                handed = kind(order)
                found = answer_by(web, question, handed)
                self.assertEqual((found, handed), (told, kind(order)), (question, order))
                self.assertIs(type(found), list)
            else:
                self.assert_refused(web, question, kind(order))

    def test_each_order(self):
        chance = random.Random(200)
        counts = [0, 0]
        for _ in range(120):
            web, question = some_web(chance, knots=4), some_question(chance)
            told = Second(web).answer(question)
            orders = list(itertools.permutations(range(len(question[1]))))
            for order in orders if len(orders) < 130 else chance.sample(orders, 60):
                self.assert_by(web, question, order, told)
                counts[is_told_order(question[1], order)] += 1
            self.assert_by(web, question, plan(question), told)
        self.assertGreater(min(counts), 700)

    def test_each_order_of_all_sorts_of_rows(self):
        rows = (("knot", "x", "a"), ("any", "y"), ("tie", "x", "t", "y"), ("way", "x", "t", "z", 2), ("unlike", "x", "y"),
                ("holds", "z", "p", "more", 5), ("no", (("tie", "z", "t", "w"),)))
        question = (("x", "y", "z"), rows)
        self.assertEqual(answer(WEB, question), [(1, 2, 3), (2, 3, 3)])
        for order in itertools.permutations(range(7)):
            self.assert_by(WEB, question, order, [(1, 2, 3), (2, 3, 3)])

    def test_holds_unlike_and_no_stand_behind_what_binds(self):
        for row in (("holds", "x", "p", "same", 5), ("unlike", "x", "y"), ("no", (("tie", "x", "u", "z"),)),
                    ("no", (("holds", "x", "p", "less", 0),))):
            for binding in (("knot", "x", "a"), ("any", "x"), ("tie", "x", "t", "y"), ("tie", "y", "t", "x"),
                            ("way", "x", "t", "y", 1), ("way", "y", "t", "x", 1)):
                question = (("x",), (row, binding, ("any", "y"), ("any", "x")))
                told = Second(WEB).answer(question)
                for order in itertools.permutations(range(4)):
                    self.assert_by(WEB, question, order, told)
                self.assert_refused(WEB, question, (0, 1, 2, 3))
                self.assertEqual(answer_by(WEB, question, (2, 1, 0, 3)), told)

    def test_no_of_its_own_variables_stands_anywhere(self):
        question = (("x",), (("any", "x"), ("no", (("tie", "y", "z", "w"),))))
        for order in ((0, 1), (1, 0)):
            self.assertEqual(answer_by(WEB, question, order), [(1,), (2,), (3,)])
            self.assertEqual(answer_by(web=WEB, question=question, order=list(order)), [(1,), (2,), (3,)])

    def test_what_is_no_order(self):
        question = (("x",), (("any", "x"), ("knot", "x", "a"), ("holds", "x", "p", "same", 5)))
        self.assertEqual(answer_by(WEB, question, [1, 0, 2]), [(1,)])
        for order in anything() + [
                [0, 1], [0, 2], [1, 2], [0, 0, 1], [0, 1, 1], [0, 1, 2, 2], [0, 1, 2, 3], [0, 1, 3], [-1, 0, 1], [0, 1, -1],
                [0, -2, 2], [False, 1, 2], [0, True, 2], [0, 1, "2"], "012", [0, 1, None], [0, 1, (2,)], [0, 1, [2]],
                {0: 0, 1: 1, 2: 2}, [[0, 1, 2]], ((0, 1, 2),), [0, 1, HUGE], [HUGE, 1, 2], [0, 1, {}], (0, 1, ()), []]:
            self.assert_refused(WEB, question, order)
            self.assert_refused(Web(), question, order)
        single = (("x",), (("any", "x"),))
        for order in anything():
            if order in ((0,), [0]) and order[0] is not False:
                self.assertEqual(answer_by(WEB, single, order), [(1,), (2,), (3,)])
            else:
                self.assert_refused(WEB, single, order)
        self.assert_refused(WEB, single, (False,))
        self.assert_refused(WEB, (("x",), single[1] * 2), [0, True])

    def test_what_is_told_is_the_askers_own(self):
        question = (("x",), (("any", "x"),))
        answer_by(WEB, question, [0]).clear()
        self.assertEqual(answer_by(WEB, question, [0]), [(1,), (2,), (3,)])


if __name__ == "__main__":
    unittest.main()
