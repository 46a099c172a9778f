"""Point 26 over what is asked: answers, plans and papers are those of the web that an asker sees."""

import random
import unittest

from tests.asking import Second, some_answered, some_deed, some_question
from websplit.errors import NoBatch, NoTuple
from websplit.papers import showing, shows
from websplit.plain import answer
from websplit.plans import answer_by, plan
from websplit.rights import seen, seen_by
from websplit.webs import Web
from websplit.webtexts import read_web, show_web
from websplit.whole import Whole

BEGIN = (
    ("knot", 1, "a", (("p", 1), ("q", 1))), ("knot", 2, "a", (("p", 2),)), ("knot", 3, "b", (("p", 2),)),
    ("knot", 4, "a", ()), ("tie", 1, "t", 1, 2, 1), ("tie", 2, "t", 2, 3, 1), ("tie", 3, "u", 3, 4, 1),
)
PAIRS = (("x", "y"), (("way", "x", "t", "y", 2),))


def begun():
    whole = Whole()
    whole.tell(BEGIN)
    return whole


class Moments(unittest.TestCase):
    def test_bars_are_those_as_of_the_moment_and_of_the_last_one(self):
        whole = begun()
        whole.tell([("bar", "ann", ("one", 1))])
        whole.tell([("free", "ann", ("one", 1)), ("bar", "ann", ("kind", "b"))])
        whole.tell([("bar", "bob", ("one", 4))])
        told = [seen_by(whole, "ann", moment).knots() for moment in range(5)]
        self.assertEqual(told, [[], [1, 2, 4], [2, 4], [1, 2, 4], [1, 2, 4]])
        self.assertEqual(seen_by(whole, "ann", None), seen_by(whole, "ann", 4))
        self.assertEqual([seen_by(whole, "bob", moment).knots() for moment in range(5)], [[]] + [[1, 2, 3]] * 4)

    def test_the_owner_and_whoever_is_barred_from_nothing_see_all(self):
        whole = begun()
        whole.tell([("bar", "ann", ("one", 1))])
        for asker in (None, "bob"):
            for moment in (None, 0, 1, 2):
                self.assertEqual(seen_by(whole, asker, moment), whole.web(moment=moment))

    def test_the_whole_stays(self):
        whole = begun()
        whole.tell([("bar", "ann", ("one", 1))])
        ahead = show_web(whole.web())
        seen_by(whole, "ann", None)
        self.assertEqual((show_web(whole.web()), whole.bars("ann"), whole.last()), (ahead, (("one", 1),), 2))


class Asked(unittest.TestCase):
    def test_answers_of_each_bar(self):
        web = begun().web()
        for bar, told in ((("one", 2), []), (("one", 4), [(1, 2), (1, 3), (2, 3)]), (("kind", "b"), [(1, 2)]),
                          (("ties", "t"), []), (("ties", "u"), [(1, 2), (1, 3), (2, 3)]), (("holding", "q", 1), [(2, 3)]),
                          (("name", "p"), [(1, 2), (1, 3), (2, 3)])):
            self.assertEqual(answer(seen(web, (bar,)), PAIRS), told)
        question = (("x",), (("any", "x"), ("holds", "x", "p", "same", 2)))
        self.assertEqual(answer(web, question), [(2,), (3,)])
        self.assertEqual(answer(seen(web, [("name", "p")]), question), [])
        self.assertEqual(answer(seen(web, [("name", "p")]), (("x",), (("any", "x"), ("no", question[1][1:])))), [(1,), (2,), (3,), (4,)])

    def test_a_tuple_with_a_barred_knot_is_none(self):
        web = begun().web()
        papers = {asked: showing(web, PAIRS, asked) for asked in answer(web, PAIRS)}
        for bar in (("one", 3), ("kind", "b")):
            left = seen(web, [bar])
            for asked, paper in papers.items():
                if 3 not in asked:
                    self.assertEqual(showing(left, PAIRS, asked), paper)
                    self.assertIs(shows(left, PAIRS, asked, paper), True)
                    continue
                with self.assertRaises(NoTuple) as caught:
                    showing(left, PAIRS, asked)
                self.assertEqual(caught.exception.asked, asked)
                self.assertIs(shows(left, PAIRS, asked, paper), False)

    def test_a_paper_by_a_barred_tie_shows_nothing(self):
        web = begun().web()
        for bar in (("ties", "t"), ("one", 2)):
            self.assertIs(shows(seen(web, [bar]), PAIRS, (1, 3), showing(web, PAIRS, (1, 3))), False)

    def test_a_no_row_holds_by_what_is_seen(self):
        question = (("x",), (("any", "x"), ("no", (("tie", "x", "u", "y"),))))
        whole = begun()
        whole.tell([("bar", "ann", ("one", 4))])
        left = seen_by(whole, "ann", None)
        self.assertEqual((answer(whole.web(), question), answer(left, question)), ([(1,), (2,), (4,)], [(1,), (2,), (3,)]))
        self.assertIs(shows(left, question, (3,), showing(left, question, (3,))), True)
        self.assertIs(shows(whole.web(), question, (3,), showing(left, question, (3,))), False)

    def test_webs_alike_but_for_what_is_barred_tell_the_same(self):
        one = begun().web()
        other = read_web(show_web(one).replace("knot 3 b p=2", "knot 3 b q=9").replace("\ntie 1", "\nknot 5 b p=1\ntie 1")
                         .replace("u 3 4", "u 5 5"))
        bars = [("kind", "b")]
        chance = random.Random(261)
        for _ in range(200):
            question = some_question(chance)
            told = answer(seen(one, bars), question)
            self.assertEqual(answer(seen(other, bars), question), told)
            for asked in told:
                self.assertEqual(showing(seen(other, bars), question, asked), showing(seen(one, bars), question, asked))


class Histories(unittest.TestCase):
    def test_beside_a_second_search_of_what_is_left(self):
        chance = random.Random(26)
        full = 0
        for _ in range(40):
            whole = begun()
            for _ in range(40):
                try:
                    whole.tell([some_deed(chance, whole)])
                except NoBatch:
                    continue
            for _ in range(12):
                moment, asker = chance.randint(1, whole.last()), chance.choice(("ann", "bob", None))
                web = seen_by(whole, asker, moment)
                question = some_answered(chance, web, variables=2)
                bars = set(whole.bars(asker, moment=moment)) | set(whole.bars(asker))
                self.assertEqual(web, seen(whole.web(moment=moment), list(bars)))
                told = Second(web).answer(question)
                self.assertEqual(answer(web, question), told)
                self.assertEqual(answer_by(web, question, plan(question)), told)
                for asked in told[:4]:
                    self.assertIs(shows(web, question, asked, showing(web, question, asked)), True)
                barred = set(whole.web(moment=moment).knots()) - set(web.knots())
                self.assertFalse(barred & {knot for line in told for knot in line})
                full += bool(told and barred)
        self.assertGreater(full, 40)

    def test_of_the_empty_web(self):
        self.assertEqual(seen_by(Whole(), "ann", None), Web())
        self.assertEqual(answer(seen_by(Whole(), "ann", 0), PAIRS), [])


if __name__ == "__main__":
    unittest.main()
