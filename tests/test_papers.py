"""Point 21: showing papers."""

import copy
import itertools
import random
import unittest

from tests.asking import Second, outer_of, rows_of, some_question, some_web, some_worth, variants
from tests.samples import HUGE, anything
from websplit.errors import NoTuple
from websplit.papers import showing, shows
from websplit.plain import answer
from websplit.questions import need_question
from websplit.webs import Web
from websplit.webtexts import read_web

WEB = read_web("""knot 0 a
knot 1 a p=5
knot 2 b
knot 3 b
tie 0 t 0 1 1
tie 1 t 1 2 1
tie 2 t 2 3 1
tie 3 u 3 3 1
tie 4 t 0 1 7
tie 5 u 0 1 7""")
CHAIN = (("x", "y"), (("tie", "x", "t", "y"), ("knot", "x", "a"), ("holds", "y", "p", "more", 4), ("unlike", "x", "y"),
                      ("way", "y", "t", "z", 2), ("no", (("tie", "z", "u", "w"),)), ("any", "z")))


def is_number(thing, numbers):
    return type(thing) is int and thing in numbers


def shows_too(web, question, asked, paper):
    """A second judge of papers, of anything."""
    second, rows, outer = Second(web), question[1], outer_of(question[1])
    if type(paper) is not tuple or len(paper) != 2 or type(paper[0]) is not tuple or type(paper[1]) is not tuple:
        return False
    if [type(pair) for pair in paper[0]] != [tuple] * len(outer) or {len(pair) for pair in paper[0]} - {2}:
        return False
    if [pair[0] for pair in paper[0]] != outer or not all(is_number(pair[1], second.knots) for pair in paper[0]):
        return False
    told = dict(paper[0])
    if type(asked) is not tuple or not all(is_number(knot, second.knots) for knot in asked):
        return False
    if list(asked) != [told[name] for name in question[0]] or len(paper[1]) != len(rows):
        return False
    return all(is_sign(second, row, told, sign) for row, sign in zip(rows, paper[1]))


def is_sign(second, row, told, sign):
    if row[0] not in ("tie", "way"):
        return sign is None and second.holds(row, told)
    if row[0] == "way" and (type(sign) is not tuple or not 1 <= len(sign) <= row[4]):
        return False
    ties = sign if row[0] == "way" else (sign,)
    if not all(is_number(tie, second.ties) and second.ties[tie][0] == row[2] for tie in ties):
        return False
    places = [told[row[1]]] + [second.ties[tie][2] for tie in ties]
    return places[:-1] == [second.ties[tie][1] for tie in ties] and places[-1] == told[row[3]]


class Told(unittest.TestCase):
    def test_a_paper(self):
        self.assertEqual(answer(WEB, CHAIN), [(0, 1)])
        paper = showing(WEB, CHAIN, (0, 1))
        self.assertEqual(paper[0], (("x", 0), ("y", 1), ("z", 2)))
        self.assertIn(paper[1], [(tie, None, None, None, (1,), None, None) for tie in (0, 4)])
        self.assertIs(shows(WEB, CHAIN, (0, 1), paper), True)
        self.assertEqual(showing(web=WEB, question=CHAIN, asked=(0, 1)), paper)
        self.assertIs(shows(web=WEB, question=CHAIN, asked=(0, 1), paper=paper), True)

    def test_each_paper_that_holds_is_let_by(self):
        for tie, way in itertools.product((0, 1, 4, 5), ((1,), (1, 2), (2,), (), (1, 2, 3))):
            paper = ((("x", 0), ("y", 1), ("z", 2)), (tie, None, None, None, way, None, None))
            self.assertIs(shows(WEB, CHAIN, (0, 1), paper), tie in (0, 4) and way == (1,))

    def test_ways_of_other_lengths(self):
        question = (("x", "y"), (("way", "x", "t", "y", 3),))
        for pair, ways in {(0, 1): ((0,), (4,)), (0, 2): ((0, 1), (4, 1)), (0, 3): ((0, 1, 2), (4, 1, 2))}.items():
            self.assertIn(showing(WEB, question, pair)[1][0], ways)
            for way in ways:
                self.assertIs(shows(WEB, question, pair, ((("x", pair[0]), ("y", pair[1])), (way,))), True)
                short = (("x", "y"), (("way", "x", "t", "y", 1),))
                self.assertIs(shows(WEB, short, pair, ((("x", pair[0]), ("y", pair[1])), (way,))), len(way) == 1)

    def test_loops(self):
        question = (("x",), (("way", "x", "u", "x", 3), ("tie", "x", "u", "x")))
        self.assertIn(showing(WEB, question, (3,)), [((("x", 3),), ((3,) * count, 3)) for count in (1, 2, 3)])
        for count in range(6):
            self.assertIs(shows(WEB, question, (3,), ((("x", 3),), ((3,) * count, 3))), count in (1, 2, 3))

    def test_nothing_shown_and_no_outer_variables(self):
        question = ((), (("no", (("knot", "x", "z"),)),))
        self.assertEqual(showing(WEB, question, ()), ((), (None,)))
        self.assertIs(shows(WEB, question, (), ((), (None,))), True)
        self.assertIs(shows(WEB, ((), (("no", (("any", "x"),)),)), (), ((), (None,))), False)
        self.assertIs(shows(Web(), ((), (("no", (("any", "x"),)),)), (), ((), (None,))), True)
        question = ((), (("knot", "x", "b"),))
        self.assertIn(showing(WEB, question, ()), [((("x", 2),), (None,)), ((("x", 3),), (None,))])
        for knot in range(5):
            self.assertIs(shows(WEB, question, (), ((("x", knot),), (None,))), knot in (2, 3))

    def test_shown_twice(self):
        question = (("x", "y", "x"), (("any", "x"), ("any", "y")))
        paper = showing(WEB, question, (1, 2, 1))
        self.assertEqual(paper, ((("x", 1), ("y", 2)), (None, None)))
        for asked in itertools.product((1, 2), repeat=3):
            self.assertIs(shows(WEB, question, asked, paper), asked == (1, 2, 1))
        with self.assertRaises(NoTuple) as caught:
            showing(WEB, question, (1, 2, 2))
        self.assertEqual(caught.exception.asked, (1, 2, 2))

    def test_what_is_none_of_the_answer(self):
        web = read_web("knot 0 a\nknot 1 b")
        questions = [((), (("knot", "x", "z"),)), (("x",), (("knot", "x", "b"),)), (("x", "x"), (("any", "x"),)),
                     (("x", "y"), (("tie", "x", "t", "y"),))]
        samples = anything() + [[1], (1.0,), (True,), (False,), (1, True), [1, 1], ((1,),), ("b",), (None,), (2,), (-1,), (HUGE,),
                                (1, 1, 1), ([],), ({},), (0, 1), (1, 0), {1: 1}]
        for question in questions:
            need_question(question)
            for asked in samples:
                ahead = copy.deepcopy(asked)
                if type(asked) is tuple and all(type(knot) is int for knot in asked) and asked in answer(web, question):
                    continue
                with self.assertRaises(NoTuple) as caught:
                    showing(web, question, asked)
                self.assertIs(caught.exception.asked, asked)
                self.assertEqual(asked, ahead)
                self.assertIs(shows(web, question, asked, ((("x", 1),), (None,))), False)

    def test_papers_of_anything(self):
        web = read_web("knot 1 a\ntie 1 t 1 1 1")
        question = (("x",), (("tie", "x", "t", "x"), ("way", "x", "t", "x", 2), ("any", "x")))
        good = ((("x", 1),), (1, (1, 1), None))
        self.assertIs(shows(web, question, (1,), good), True)
        for sample in anything():
            papers = [sample, (sample, good[1]), (good[0], sample), ((sample,), good[1]), ((("x", sample),), good[1]),
                      (((sample, 1),), good[1]), (good[0], (sample, (1, 1), None)), (good[0], (1, sample, None)),
                      (good[0], (1, (sample,), None)), (good[0], (1, (1, sample), None)), (good[0], (1, (1, 1), sample)),
                      (good[0], good[1] + (sample,)), good + (sample,), (good[0] + (sample,), good[1])]
            for paper in papers:
                ahead = copy.deepcopy(paper)
                self.assertIs(shows(web, question, (1,), paper), shows_too(web, question, (1,), paper))
                self.assertEqual(paper, ahead)
            self.assertIs(shows(web, question, sample, good), False)


class OfManyQuestions(unittest.TestCase):
    def samples(self, seed, count):
        """Webs and questions by chance that have an answer."""
        chance = random.Random(seed)
        while count:
            web, question = some_web(chance, knots=4), some_question(chance)
            if answer(web, question):
                count -= 1
                yield chance, web, question

    def test_of_each_tuple_a_paper_that_is_let_by(self):
        for _, web, question in self.samples(21, 300):
            rows, found = rows_of(web), Second(web).found(question)
            told = answer(web, question)
            for asked in itertools.product(web.knots(), repeat=len(question[0])):
                if asked not in told:
                    with self.assertRaises(NoTuple) as caught:
                        showing(web, question, asked)
                    self.assertIs(caught.exception.asked, asked)
                    continue
                paper = showing(web, question, asked)
                self.assertIs(shows(web, question, asked, paper), True)
                self.assertTrue(shows_too(web, question, asked, paper), (rows, question, asked, paper))
                self.assertIn(dict(paper[0]), found)
                self.assertEqual(paper, showing(web, question, asked))
            self.assertEqual(rows_of(web), rows)

    def test_no_paper_is_let_by_for_another_tuple(self):
        for chance, web, question in self.samples(210, 80):
            told = answer(web, question)
            for asked in told[:5]:
                paper = showing(web, question, asked)
                for other in itertools.product(web.knots(), repeat=len(question[0])):
                    self.assertIs(shows(web, question, other, paper), other == asked)
                for other in (list(asked), asked + asked[:1] + (0,), None, asked[1:] + (None,), [asked]):
                    self.assertIs(shows(web, question, other, paper), False)

    def test_one_thing_of_a_paper_otherwise(self):
        let_by = kept_out = 0
        for chance, web, question in self.samples(211, 60):
            asked = chance.choice(answer(web, question))
            paper = showing(web, question, asked)
            pool = web.knots() + web.ties() + [True, False, None, (), [], {}, "x", -1, 77]
            for other in variants(paper, pool):
                told = shows_too(web, question, asked, other)
                self.assertIs(shows(web, question, asked, other), told, (question, asked, other))
                let_by += told
                kept_out += not told
        self.assertGreater(let_by, 300)
        self.assertGreater(kept_out, 5000)

    def test_truths_for_numbers(self):
        web = read_web("knot 0 a\nknot 1 a\ntie 0 t 0 1 1\ntie 1 t 1 1 1")
        question = (("x", "y"), (("tie", "x", "t", "y"), ("way", "x", "t", "y", 2)))
        good = ((("x", 0), ("y", 1)), (0, (0, 1)))
        self.assertIs(shows(web, question, (0, 1), good), True)
        for wrong in ((False, 1), (0, True), [0, 1]):
            self.assertIs(shows(web, question, wrong, good), False)
        for wrong in (((("x", False), ("y", 1)), good[1]), ((("x", 0), ("y", True)), good[1]), (good[0], (False, (0, 1))),
                      (good[0], (0, (False, 1))), (good[0], (0, (0, True))), (good[0], (0, [0, 1])), (good[0], [0, (0, 1)]),
                      ([("x", 0), ("y", 1)], good[1]), ((["x", 0], ("y", 1)), good[1]), list(good)):
            self.assertIs(shows(web, question, (0, 1), wrong), False)

    def test_on_a_web_that_is_otherwise_in_one_thing(self):
        let_by = kept_out = 0
        for chance, web, question in self.samples(212, 150):
            asked = chance.choice(answer(web, question))
            paper = showing(web, question, asked)
            for other in self.others(chance, web):
                told = shows_too(other, question, asked, paper)
                self.assertIs(shows(other, question, asked, paper), told)
                let_by += told
                kept_out += not told
        self.assertGreater(min(let_by, kept_out), 300)

    def others(self, chance, web):
        knots, ties = rows_of(web)
        for at, (number, kind, worths) in enumerate(knots):
            for row in ((number, "c", worths), (number, kind, {**worths, "p": some_worth(chance)}), (number, kind, {}),
                        (998, kind, worths)):
                left = [tie for tie in ties if row[0] == number or number not in tie[2:4]]
                yield Web(knots[:at] + [row] + knots[at + 1:], left)
        for at, (number, kind, start, end, weight) in enumerate(ties):
            for row in ((number, "z", start, end, weight), (number, kind, end, start, weight), (number, kind, start, end, 99),
                        (997, kind, start, end, weight)):
                yield Web(knots, ties[:at] + [row] + ties[at + 1:])
            yield Web(knots, ties[:at] + ties[at + 1:])

    def test_a_web_at_its_bounds(self):
        web = Web([(knot, "a", {}) for knot in range(60)], [(tie, "t", tie % 60, (tie + 1) % 60, 1) for tie in range(120)])
        question = (("w",), (("any", "x"), ("any", "y"), ("way", "y", "t", "z", 4), ("any", "w"), ("unlike", "x", "y")))
        self.assertIs(shows(web, question, (59,), showing(web, question, (59,))), True)


if __name__ == "__main__":
    unittest.main()
