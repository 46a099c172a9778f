"""Point 13: batches, deed by deed."""

import copy
import unittest

from tests.samples import HUGE, anything, nested
from websplit.errors import NoBatch
from websplit.webtexts import read_web, show_web
from websplit.whole import Whole

BEGIN = (
    ("knot", 1, "person", (("town", "rome"), ("age", 30))),
    ("knot", 2, "person", ()),
    ("knot", 3, "town", ()),
    ("tie", 1, "knows", 1, 2, 5),
    ("tie", 2, "self", 3, 3, 1000),
    ("bar", "ann", ("kind", "town")),
)
TEXT = "knot 1 person age=30 town=rome\nknot 2 person\nknot 3 town\ntie 1 knows 1 2 5\ntie 2 self 3 3 1000"
ASKERS = ("ann", "bob", "kind")


def begun():
    whole = Whole()
    whole.tell(BEGIN)
    return whole


def all_told(whole):
    """All that a whole tells."""
    told = [whole.first(), whole.last()]
    for moment in range(whole.first(), whole.last() + 1):
        told.append(show_web(whole.web(moment=moment)))
        told.append([whole.bars(asker, moment=moment) for asker in ASKERS])
    return told


class Batches(unittest.TestCase):
    def assert_refused(self, whole, batch, at, why):
        ahead = all_told(whole)
        with self.assertRaises(NoBatch) as caught:
            whole.tell(batch)
        self.assertEqual((caught.exception.at, caught.exception.why), (at, why))
        self.assertEqual(all_told(whole), ahead)

    def fill(self, whole, deeds):
        for at in range(0, len(deeds), 20):
            whole.tell(deeds[at:at + 20])

    def after(self, *deeds):
        whole = begun()
        whole.tell(deeds)
        return show_web(whole.web())


class Done(Batches):
    def test_new_knots_and_ties(self):
        self.assertEqual(show_web(begun().web()), TEXT)
        self.assertEqual(begun().bars("ann"), (("kind", "town"),))

    def test_each_sort(self):
        self.assertEqual(self.after(("put", 2, "age", -1)), TEXT.replace("knot 2 person", "knot 2 person age=-1"))
        self.assertEqual(self.after(("put", 1, "age", "old")), TEXT.replace("age=30", "age=old"))
        self.assertEqual(self.after(("out", 1, "age")), TEXT.replace(" age=30", ""))
        self.assertEqual(self.after(("cut", 1)), TEXT.replace("\ntie 1 knows 1 2 5", ""))
        self.assertEqual(self.after(("cut", 1), ("drop", 2)),
                         TEXT.replace("\ntie 1 knows 1 2 5", "").replace("\nknot 2 person", ""))
        self.assertEqual(self.after(("tie", 0, "knows", 1, 2, 5)), TEXT.replace("\ntie 1", "\ntie 0 knows 1 2 5\ntie 1"))
        self.assertEqual(self.after(("bar", "bob", ("one", 1)), ("free", "ann", ("kind", "town"))), TEXT)

    def test_bars(self):
        whole = begun()
        whole.tell([("bar", "bob", ("kind", "town")), ("bar", "ann", ("one", 999)), ("free", "ann", ("kind", "town"))])
        self.assertEqual(whole.bars("ann"), (("one", 999),))
        self.assertEqual(whole.bars("bob"), (("kind", "town"),))
        whole.tell([("free", "bob", ("kind", "town")), ("bar", "bob", ("kind", "town"))])
        self.assertEqual(whole.bars("bob"), (("kind", "town"),))

    def test_numbers_and_weights_at_their_ends(self):
        whole = Whole()
        whole.tell([("knot", 0, "a", ()), ("knot", 999, "a", (("a", -999999999), ("b", 999999999))),
                    ("tie", 0, "b", 0, 999, 1), ("tie", 999, "b", 999, 0, 1000), ("put", 999, "c", "abcdefghijkl")])
        text = "knot 0 a\nknot 999 a a=-999999999 b=999999999 c=abcdefghijkl\ntie 0 b 0 999 1\ntie 999 b 999 0 1000"
        self.assertEqual(show_web(whole.web()), text)

    def test_deeds_are_done_one_behind_the_other(self):
        self.assertEqual(self.after(("knot", 5, "a", ()), ("put", 5, "a", 1), ("tie", 7, "b", 5, 1, 1), ("cut", 7),
                                    ("put", 5, "b", 2), ("out", 5, "a"), ("out", 5, "b"), ("drop", 5)), TEXT)

    def test_lists_and_tuples_of_one_to_twenty(self):
        for batch in ([("put", 2, "a", 1)], (("put", 2, "a", 1),), [("put", 2, "a", k) for k in range(20)],
                      tuple(("put", 2, "a", k) for k in range(20))):
            whole = begun()
            self.assertEqual(whole.tell(batch), 2)
            self.assertEqual(begun().tell(batch=batch), 2)
            self.assertEqual(whole.web().worths(2), {"a": batch[-1][3]})

    def test_what_is_handed_in_stays_and_may_change_behind(self):
        batch = [("put", 2, "age", 5), ("bar", "bob", ("one", 1))]
        ahead = copy.deepcopy(batch)
        whole = begun()
        whole.tell(batch)
        self.assertEqual(batch, ahead)
        batch[0] = ("put", 2, "age", 6)
        batch.clear()
        self.assertEqual((whole.web().worths(2), whole.bars("bob")), ({"age": 5}, (("one", 1),)))


class Form(Batches):
    def test_what_is_no_batch(self):
        for sample in anything():
            if not isinstance(sample, (list, tuple)) or not sample:
                self.assert_refused(begun(), sample, None, "form")
        self.assert_refused(begun(), [("put", 2, "a", 1)] * 21, None, "form")
        self.assert_refused(begun(), (("put", 2, "a", 1),) * 21, None, "form")
        self.assert_refused(begun(), [None] * 21, None, "form")
        self.assert_refused(begun(), {0: ("put", 2, "a", 1)}, None, "form")

    def test_what_is_no_deed(self):
        wrong = anything() + [nested(16), ("knots", 5, "a", ()), ("",), ("put",), (None, 1), ([], 1), ({}, 1), ((), 1)]
        for sample in wrong:
            if sample == ("knot", 3, "person", ()):
                continue
            ahead = copy.deepcopy(sample)
            self.assert_refused(begun(), [sample], 0, "form")
            self.assert_refused(begun(), (("put", 2, "a", 1), sample), 1, "form")
            self.assertEqual(sample, ahead)

    def test_each_part_of_each_deed(self):
        number = [-1, 1000, HUGE, True, False, None, "1", "a", (), (1,), [], [1], {}]
        name = ["", "A", "abcdefghi", "a1", "a\n", 1, True, None, (), ("a",), [], ["a"], {}]
        worth = [1000000000, -1000000000, HUGE, "", "abcdefghijklm", "A", True, False, None, (), (1,), [], [1], {}]
        weight = [0, -1, 1001, HUGE, True, None, "a", (), [], {}]
        worths = [None, 1, "a", [], {}, {"a": 1}, [("a", 1)], ("a", 1), (("a",),), (("a", 1, 1),), (["a", 1],), ((),),
                  (("a", 1), ("a", 2)), (("a", 1), ("a", 1)), (("A", 1),), ((1, 1),), (("a", True),), (("a", None),),
                  (("a", 1000000000),), (([], 1),), (("a", []),), ("ab",), (("a", 1), None)]
        bar = [None, 1, "one", (), ("one",), ("one", 1000), ("one", True), ["one", 1], ("kind", "A"), ("holding", "a"), {}]
        parts = {
            ("knot", 5, "a", ()): (number, name, worths),
            ("tie", 5, "a", 1, 2, 1): (number, name, number, number, weight),
            ("put", 1, "a", 1): (number, name, worth),
            ("out", 1, "age"): (number, name),
            ("cut", 1): (number,),
            ("drop", 2): (number,),
            ("bar", "ann", ("one", 1)): (name, bar),
            ("free", "ann", ("kind", "town")): (name, bar),
        }
        whole = begun()
        for deed, wrong in parts.items():
            self.assertEqual(len(deed), len(wrong) + 1)
            for at, samples in enumerate(wrong):
                for sample in samples:
                    self.assert_refused(whole, [deed[:at + 1] + (sample,) + deed[at + 2:]], 0, "form")
            for other in (deed[:-1], deed + (1,), deed + ((),), list(deed), deed[1:], deed[:1], (deed,)):
                self.assert_refused(whole, [other], 0, "form")
            self.assert_refused(whole, [(deed[0].upper(),) + deed[1:]], 0, "form")


class Reasons(Batches):
    def test_taken(self):
        whole = begun()
        self.assert_refused(whole, [("knot", 1, "a", ())], 0, "taken")
        self.assert_refused(whole, [("tie", 1, "a", 1, 2, 1)], 0, "taken")
        self.assert_refused(whole, [("knot", 5, "a", ()), ("knot", 5, "a", ())], 1, "taken")
        self.assert_refused(whole, [("tie", 5, "a", 1, 1, 1), ("tie", 5, "a", 1, 1, 1)], 1, "taken")

    def test_taken_for_ever(self):
        whole = begun()
        whole.tell([("cut", 1), ("drop", 2), ("knot", 7, "a", ()), ("tie", 8, "a", 7, 7, 1), ("cut", 8), ("drop", 7)])
        whole.tell([("put", 1, "a", 1)])
        for go in (0, 2, 3):
            whole.let_go(go)
            for number in (1, 2, 3, 7):
                self.assert_refused(whole, [("knot", number, "a", ())], 0, "taken")
            for number in (1, 2, 8):
                self.assert_refused(whole, [("tie", number, "a", 1, 1, 1)], 0, "taken")
        self.assert_refused(begun(), [("cut", 1), ("drop", 2), ("knot", 2, "a", ())], 2, "taken")
        self.assert_refused(begun(), [("cut", 1), ("tie", 1, "a", 1, 2, 1)], 1, "taken")

    def test_numbers_of_knots_and_ties_are_apart(self):
        whole = begun()
        self.assertEqual(whole.tell([("knot", 8, "a", ()), ("tie", 8, "a", 8, 8, 1), ("tie", 3, "a", 8, 8, 1)]), 2)
        self.assertEqual((whole.web().kind(8), whole.web().tie(8)), ("a", ("a", 8, 8, 1)))

    def test_a_refused_batch_takes_no_number(self):
        whole = begun()
        self.assert_refused(whole, [("knot", 8, "a", ()), ("tie", 8, "a", 8, 8, 1), ("bar", "bob", ("one", 1)),
                                    ("put", 8, "a", 1), ("put", 1, "age", 1), ("out", 1, "town"), ("cut", 9)], 6, "tie")
        self.assertEqual(whole.tell([("knot", 8, "a", ()), ("tie", 8, "a", 8, 8, 1), ("bar", "bob", ("one", 1))]), 2)

    def test_knot(self):
        whole = begun()
        whole.tell([("cut", 1), ("drop", 2)])
        for number in (2, 0, 999):
            for deed in (("put", number, "age", 1), ("out", number, "age"), ("drop", number),
                         ("tie", 9, "a", number, 1, 1), ("tie", 9, "a", 1, number, 1), ("tie", 9, "a", number, number, 1)):
                self.assert_refused(whole, [deed], 0, "knot")
                self.assert_refused(whole, [("put", 1, "a", 1), deed], 1, "knot")

    def test_tie(self):
        self.assert_refused(begun(), [("cut", 3)], 0, "tie")
        self.assert_refused(begun(), [("cut", 1), ("cut", 1)], 1, "tie")

    def test_worth(self):
        self.assert_refused(begun(), [("out", 1, "rome")], 0, "worth")
        self.assert_refused(begun(), [("out", 2, "age")], 0, "worth")
        self.assert_refused(begun(), [("out", 1, "age"), ("out", 1, "age")], 1, "worth")

    def test_tied(self):
        for number in (1, 2, 3):
            self.assert_refused(begun(), [("drop", number)], 0, "tied")
        self.assertNotIn("knot 3", self.after(("cut", 2), ("drop", 3)))

    def test_twice_and_free(self):
        whole = begun()
        self.assert_refused(whole, [("bar", "ann", ("kind", "town"))], 0, "twice")
        self.assert_refused(whole, [("bar", "bob", ("one", 1)), ("bar", "bob", ("one", 1))], 1, "twice")
        self.assert_refused(whole, [("free", "bob", ("kind", "town"))], 0, "free")
        self.assert_refused(whole, [("free", "ann", ("ties", "town"))], 0, "free")
        self.assert_refused(whole, [("free", "ann", ("kind", "town")), ("free", "ann", ("kind", "town"))], 1, "free")

    def test_many_knots(self):
        whole = Whole()
        self.fill(whole, [("knot", number, "a", ()) for number in range(60)])
        self.assert_refused(whole, [("knot", 60, "a", ())], 0, "many")
        self.assert_refused(whole, [("knot", 59, "a", ())], 0, "taken")
        self.assert_refused(whole, [("drop", 0), ("knot", 60, "a", ()), ("knot", 61, "a", ())], 2, "many")
        whole.tell([("drop", 0), ("knot", 60, "a", ())])
        self.assertEqual(len(whole.web()), 60)

    def test_many_ties(self):
        whole = begun()
        self.fill(whole, [("tie", number, "a", 1, 1, 1) for number in range(10, 128)])
        self.assert_refused(whole, [("tie", 500, "a", 1, 1, 1)], 0, "many")
        self.assert_refused(whole, [("tie", 500, "a", 1, 9, 1)], 0, "knot")
        self.assert_refused(whole, [("tie", 10, "a", 1, 9, 1)], 0, "taken")
        whole.tell([("cut", 10), ("tie", 500, "a", 1, 1, 1)])
        self.assertEqual(len(whole.web().ties()), 120)

    def test_many_worths(self):
        whole = begun()
        six = tuple((name, 1) for name in "abcdef")
        whole.tell([("knot", 5, "a", six), ("put", 5, "f", 2), ("put", 5, "f", "x")])
        self.assertEqual(len(whole.web().worths(5)), 6)
        self.assert_refused(whole, [("put", 5, "g", 1)], 0, "many")
        self.assert_refused(whole, [("knot", 6, "a", six + (("g", 1),))], 0, "many")
        self.assert_refused(whole, [("knot", 5, "a", six + (("g", 1),))], 0, "taken")
        self.assert_refused(whole, [("knot", 6, "a", six + (("a", 1),))], 0, "form")
        whole.tell([("out", 5, "a"), ("put", 5, "g", 1)])
        self.assertEqual(sorted(whole.web().worths(5)), list("bcdefg"))

    def test_the_first_of_two_reasons_goes(self):
        self.assert_refused(begun(), [("knot", 1, "A", ())], 0, "form")
        self.assert_refused(begun(), [("tie", 1, "a", 1, 2, 0)], 0, "form")
        self.assert_refused(begun(), [("tie", 1, "a", 9, 9, 1)], 0, "taken")
        self.assert_refused(begun(), [("out", 9, "nothing")], 0, "knot")

    def test_the_first_of_two_deeds_goes(self):
        self.assert_refused(begun(), [("cut", 9), None], 0, "tie")
        self.assert_refused(begun(), [("cut", 1), ("drop", 3), ("knot", 1, "a", ())], 1, "tied")

    def test_a_refused_batch_leaves_all_in_order(self):
        whole = begun()
        for wrong in ([None], [("cut", 1), ("cut", 1)], None, [("knot", 9, "a", ()), ("drop", 1)]):
            with self.assertRaises(NoBatch):
                whole.tell(wrong)
        self.assertEqual(whole.tell([("knot", 9, "a", ())]), 2)
        self.assertEqual(whole.web(), read_web(TEXT.replace("\ntie 1", "\nknot 9 a\ntie 1")))


if __name__ == "__main__":
    unittest.main()
