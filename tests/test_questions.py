"""Points 16 to 18: what a question is, and what it names."""

import copy
import random
import unittest

from tests.asking import some_plain_row, some_question, some_row, variants, verdict
from tests.samples import HUGE, anything, nested
from websplit.errors import NoQuestion
from websplit.questions import named, need_question

NO_NAMES = ["", "A", "abcdefghi", "a1", "a ", "a\n", "\u00e9", 1, 0, True, None, (), ("a",), [], ["a"], {}, {"a": 1}]
NO_WORTHS = [10 ** 9, -10 ** 9, HUGE, "", "abcdefghijklm", "A", True, False, None, (), (1,), [], {}]
BOUND = ("any", "x"), ("any", "y")


class Asked(unittest.TestCase):
    def assert_question(self, thing):
        ahead = copy.deepcopy(thing)
        self.assertIsNone(need_question(thing))
        self.assertEqual(thing, ahead)
        self.assertEqual(verdict(thing), "question")

    def assert_refused(self, thing, at):
        ahead = copy.deepcopy(thing)
        with self.assertRaises(NoQuestion) as caught:
            need_question(thing)
        self.assertEqual((type(caught.exception), caught.exception.at), (NoQuestion, at), thing)
        self.assertIs(type(caught.exception.at), type(at))
        self.assertEqual(thing, ahead)

    def assert_row(self, row):
        """It is a row, ahead of and behind others, and within no."""
        for rows in ((row,) + BOUND, BOUND + (row,), BOUND + (("no", (row,)),), BOUND + (("no", (("any", "x"), row)),)):
            self.assert_question(((), rows))

    def assert_no_row(self, row):
        self.assert_refused(((), (row,) + BOUND), 0)
        self.assert_refused(((), BOUND + (row,)), 2)
        self.assert_refused(((), BOUND + (("no", (("any", "x"), row)),)), 2)
        self.assert_refused(((), BOUND + (row, row)), 2)


class Rows(Asked):
    def test_each_sort_at_its_ends(self):
        for row in (("knot", "x", "a"), ("knot", "x", "abcdefgh"), ("any", "x"), ("tie", "x", "a", "y"),
                    ("tie", "x", "abcdefgh", "x"), ("way", "x", "a", "y", 1), ("way", "x", "abcdefgh", "y", 4),
                    ("way", "x", "a", "x", 2), ("unlike", "x", "y"), ("unlike", "x", "x")):
            self.assert_row(row)
        for word in ("same", "less", "more"):
            for worth in (0, 999999999, -999999999, "a", "abcdefghijkl"):
                self.assert_row(("holds", "x", "abcdefgh", word, worth))
        self.assert_question((("abcdefgh",), (("any", "abcdefgh"),)))
        self.assert_question((("z",), (("knot", "z", "z"),)))

    def test_each_part_of_each_sort(self):
        words = ["", "equal", "Same", "samex", 1, None, True, (), ("same",), [], {}]
        mosts = [0, 5, -1, HUGE, True, False, None, "1", "a", (), (1,), [1], {}]
        parts = {
            ("knot", "x", "a"): (NO_NAMES, NO_NAMES),
            ("any", "x"): (NO_NAMES,),
            ("holds", "x", "a", "same", 1): (NO_NAMES, NO_NAMES, words, NO_WORTHS),
            ("tie", "x", "a", "y"): (NO_NAMES, NO_NAMES, NO_NAMES),
            ("way", "x", "a", "y", 2): (NO_NAMES, NO_NAMES, NO_NAMES, mosts),
            ("unlike", "x", "y"): (NO_NAMES, NO_NAMES),
        }
        for row, wrong in parts.items():
            self.assertEqual(len(row), len(wrong) + 1)
            for at, samples in enumerate(wrong):
                for sample in samples:
                    self.assert_no_row(row[:at + 1] + (sample,) + row[at + 2:])
            for other in (row[:-1], row + ("a",), row + (1,), list(row), row[1:], row[:1], (row,), (row[0].upper(),) + row[1:],
                          (row[0] + "s",) + row[1:], (None,) + row[1:], ([],) + row[1:], ({},) + row[1:], ((),) + row[1:],
                          (True,) + row[1:], dict.fromkeys(row), "x"):
                self.assert_no_row(other)

    def test_anything_for_a_row(self):
        for sample in anything():
            self.assert_no_row(sample)
            self.assert_no_row((sample,))
            self.assert_no_row((sample, "x"))

    def test_no(self):
        row = ("tie", "x", "t", "z")
        for rows in ((row,), (row, row), (row, row, row), (("any", "z"),)):
            self.assert_question(((), BOUND + (("no", rows),)))
        for inner in ((), (row,) * 4, [row], row, "any", None, 1, True, {}, (row, None), (row, list(row)), (row, ("no", (row,))),
                      (("no", (row,)),), ((row,),), nested(14), nested(14, list)):
            self.assert_refused(((), BOUND + (("no", inner),)), 2)
        for wrong in (("no",), ("no", (row,), (row,)), ["no", (row,)], ("no", row, row), ("No", (row,)), ("no", None)):
            self.assert_refused(((), (wrong,) + BOUND), 0)
        self.assert_question(((), (("no", (("any", "z"),)),)))

    def test_the_first_row_that_is_not_as_told(self):
        self.assert_refused(((), (("any", "x"), ("any",), ("any", 1), None)), 1)
        self.assert_refused(((), (None,) * 30), 0)
        self.assert_refused(((), (("any", "x"),) * 12 + (None,)), 12)
        self.assert_refused((None, (("any", "x"), None)), 1)
        self.assert_refused((("ghost",), (("any", "x"), ("any", "X"))), 1)
        self.assert_refused((("x",) * 9, (("unlike", "x", "y"), ("any", "X"))), 1)


class Together(Asked):
    def test_how_many_are_shown(self):
        for shown in ((), ("x",), ("x", "y"), ("x", "x", "x"), ("x", "x", "y", "x"), ("y", "x", "y", "x")):
            self.assert_question((shown, BOUND))
        self.assert_refused((("x",) * 5, BOUND), None)
        self.assert_refused((("x", "y", "x", "y", "x"), BOUND), None)

    def test_what_is_shown_is_a_tuple_of_names(self):
        for shown in anything() + [["x"], "x", ("x", "X"), ("x", ""), (("x",),), {"x": 1}]:
            if shown != ():
                self.assert_refused((shown, BOUND), None)
        for sample in anything():
            self.assert_refused(((sample,), BOUND), None)

    def test_how_many_rows(self):
        for count in range(1, 9):
            self.assert_question((("x",), (("any", "x"),) * count))
        self.assert_refused(((), ()), None)
        self.assert_refused(((), (("any", "x"),) * 9), None)
        self.assert_refused(((), (("no", (("any", "x"),)),) + (("any", "x"),) * 8), None)

    def test_what_is_no_tuple_of_two(self):
        for sample in anything() + [BOUND, ((), BOUND, ()), ((),), [(), BOUND], ((), list(BOUND)), ((), None), ((), "any"),
                                    ((), {0: ("any", "x")}), (BOUND, ())]:
            self.assert_refused(sample, None if verdict(sample) is None else verdict(sample))
        self.assert_refused(((), [None]), None)
        self.assert_refused([(), (None,)], None)
        self.assert_refused(((), (None,), 1), None)

    def test_five_variables(self):
        four = (("tie", "a", "t", "b"), ("tie", "c", "t", "d"))
        self.assert_question((("a", "b", "c", "d"), four))
        self.assert_question(((), four[:1] + (("no", four[1:]),)))
        self.assert_refused(((), four + (("any", "e"),)), None)
        self.assert_refused(((), four + (("no", (("any", "e"),)),)), None)
        self.assert_refused(((), four[:1] + (("no", four[1:]), ("no", (("any", "e"),)))), None)
        self.assert_refused(((), (("no", four + (("any", "e"),)),)), None)
        self.assert_refused(((), (("no", four + (("tie", "e", "t", "f"),)),)), None)

    def test_what_is_shown_stands_outside(self):
        for row in (("knot", "x", "a"), ("any", "x"), ("tie", "x", "t", "y"), ("tie", "y", "t", "x"), ("way", "x", "t", "y", 1),
                    ("way", "y", "t", "x", 1)):
            self.assert_question((("x",), (row,)))
            self.assert_refused((("x",), (("any", "z"), ("no", (row,)))), None)
            self.assert_refused((("t",), (row,)), None)
            self.assert_refused((("a",), (row,)), None)
        self.assert_refused((("z",), BOUND), None)
        self.assert_refused((("x", "z"), BOUND), None)
        self.assert_refused((("x",), (("holds", "x", "p", "same", 1),)), None)
        self.assert_refused((("x",), (("unlike", "x", "x"),)), None)

    def test_holds_and_unlike_stand_with_what_binds(self):
        for row in (("holds", "x", "p", "same", 1), ("unlike", "x", "y"), ("unlike", "y", "x"), ("unlike", "x", "x")):
            for binding in (("knot", "x", "a"), ("any", "x"), ("tie", "x", "t", "y"), ("tie", "y", "t", "x"),
                            ("way", "x", "t", "y", 1), ("way", "y", "t", "x", 1)):
                more = (("any", "y"),)
                self.assert_question(((), (row, binding) + more))
                self.assert_question(((), (binding, ("no", (row,))) + more))
                self.assert_question(((), (("no", (row, binding)),) + more))
                self.assert_refused(((), (row, ("no", (binding,))) + more), None)
                self.assert_refused(((), (("no", (row,)), ("no", (binding,))) + more), None)
                self.assert_refused(((), (row,) + more), None)
                self.assert_refused(((), (("no", (row,)),) + more), None)
        self.assert_refused(((), (("unlike", "x", "y"), ("any", "x"))), None)
        self.assert_refused(((), (("unlike", "y", "x"), ("any", "x"))), None)
        self.assert_refused(((), (("no", (("unlike", "x", "y"), ("any", "y"))),)), None)

    def test_what_stands_in_two_no_rows_stands_outside(self):
        no = ("no", (("tie", "x", "t", "z"),))
        other = ("no", (("knot", "z", "a"),))
        self.assert_question(((), (("any", "x"), no)))
        self.assert_question(((), (("any", "x"), ("no", no[1] + other[1]))))
        self.assert_refused(((), (("any", "x"), no, other)), None)
        self.assert_refused(((), (("any", "x"), other, other)), None)
        self.assert_refused(((), (other, other)), None)
        self.assert_question(((), (("any", "x"), no, other, ("any", "z"))))
        self.assert_question(((), (no, other, ("tie", "z", "t", "x"))))
        self.assert_refused(((), (no, ("no", (("any", "x"),)), ("any", "z"))), None)

    def test_handed_in_by_name(self):
        self.assertIsNone(need_question(thing=((), BOUND)))


class BesideASecondJudge(Asked):
    def assert_judged(self, thing):
        told = verdict(thing)
        if told == "question":
            self.assert_question(thing)
        else:
            self.assert_refused(thing, told)
        return told

    def test_questions_otherwise_in_one_place(self):
        chance = random.Random(16)
        pool = ["x", "q", "no", "tie", 1, True, None, (), [], {}, ("any", "q"), ("holds", "w", "p", "more", 1), (("any", "y"),)]
        told = [self.assert_judged(thing) for _ in range(25) for thing in variants(some_question(chance), pool)]
        self.assertGreater(told.count("question"), 1000)
        self.assertGreater(told.count(None), 1000)
        self.assertGreater(min(told.count(at) for at in range(5)), 500)

    def test_rows_by_chance(self):
        chance = random.Random(17)
        told = []
        for _ in range(6000):
            held = chance.sample(("x", "y", "z", "w", "v"), chance.randint(1, 5))
            rows = tuple(some_row(chance, held) for _ in range(chance.randint(1, 4)))
            told.append(self.assert_judged((tuple(chance.sample(held, chance.randint(0, 1))), rows)))
        self.assertGreater(min(told.count("question"), told.count(None)), 1500)


class Named(unittest.TestCase):
    def test_each_sort(self):
        self.assertEqual(named((("x",), (("knot", "x", "a"),))), (("a",), False, (), ()))
        self.assertEqual(named((("x",), (("any", "x"),))), ((), True, (), ()))
        self.assertEqual(named(((), (("tie", "x", "t", "y"),))), ((), False, (), ("t",)))
        self.assertEqual(named(((), (("way", "x", "t", "y", 2),))), ((), False, (), ("t",)))
        self.assertEqual(named(((), (("tie", "x", "t", "y"), ("holds", "y", "p", "same", "q")))), ((), False, ("p",), ("t",)))
        self.assertEqual(named(((), (("tie", "x", "t", "y"), ("unlike", "x", "y")))), ((), False, (), ("t",)))

    def test_unlike_and_rising(self):
        question = ((), (("knot", "x", "b"), ("knot", "x", "a"), ("knot", "x", "b"), ("tie", "x", "u", "x"),
                         ("way", "x", "t", "x", 1), ("way", "x", "u", "x", 4), ("holds", "x", "q", "same", 1),
                         ("holds", "x", "p", "less", 1)))
        self.assertEqual(named(question), (("a", "b"), False, ("p", "q"), ("t", "u")))
        self.assertEqual(named(question=question), named(question))

    def test_within_no(self):
        rows = (("no", (("knot", "z", "c"), ("any", "z"), ("holds", "z", "p", "same", 1))),
                ("no", (("tie", "x", "t", "y"), ("way", "x", "ab", "y", 1), ("unlike", "x", "y"))))
        self.assertEqual(named((("x",), (("knot", "x", "b"), ("tie", "x", "u", "y")) + rows)),
                         (("b", "c"), True, ("p",), ("ab", "t", "u")))
        self.assertEqual(named(((), rows[:1])), (("c",), True, ("p",), ()))

    def test_beside_a_second_telling(self):
        chance = random.Random(18)
        for _ in range(400):
            question = some_question(chance)
            rows = [inner for row in question[1] for inner in (row[1] if row[0] == "no" else [row])]
            kinds, names = {row[2] for row in rows if row[0] == "knot"}, {row[2] for row in rows if row[0] == "holds"}
            ties = {row[2] for row in rows if row[0] in ("tie", "way")}
            told = named(question)
            self.assertEqual(told, (tuple(sorted(kinds)), "any" in [row[0] for row in rows], tuple(sorted(names)),
                                    tuple(sorted(ties))))
            self.assertIs(type(told[1]), bool)

    def test_a_row_names_what_it_names_alone(self):
        chance = random.Random(19)
        for _ in range(50):
            row = some_plain_row(chance, ("x",))
            self.assertEqual(named(((), (row, ("any", "x")))), named(((), (("any", "x"), ("no", (row,))))))


if __name__ == "__main__":
    unittest.main()
