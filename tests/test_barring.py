"""Point 22: barring papers."""

import copy
import random
import unittest

from tests.asking import Second, outer_of, rows_of, some_answered, some_question, some_web, stands, variants
from tests.samples import anything
from websplit.barring import barring, bars_more
from websplit.plain import answer
from websplit.questions import need_question
from websplit.rights import seen
from websplit.webs import Web
from websplit.webtexts import read_web

WEB = read_web("knot 0 a\nknot 1 a p=5\nknot 2 b\ntie 0 t 0 1 1\ntie 1 t 1 2 1\ntie 2 t 0 1 3\ntie 3 u 2 2 1")
TIED = (("x", "y"), (("tie", "x", "t", "y"), ("knot", "x", "a")))
# All knots for x; by ties for y.
TREE = ("pick", "x", ((0, ("by", "y", 0, ((1, ("told",)),))), (1, ("by", "y", 0, ((2, ("told",)),))), (2, ("fails", 1))))


def knots_by(second, row, variable, picks):
    """The knots that a tie row leads to for a variable, from the other one."""
    ties = [tie for tie in second.ties.values() if tie[0] == row[2]]
    if variable == row[3]:
        return sorted({tie[2] for tie in ties if tie[1] == picks[row[1]]})
    return sorted({tie[1] for tie in ties if tie[2] == picks[row[3]]})


def is_place(at, rows):
    return type(at) is int and 0 <= at < len(rows)


class Judge:
    """A second judge of trees, of anything."""

    def __init__(self, web, question):
        self.second, self.shown, self.rows = Second(web), question[0], question[1]
        self.outer, self.told = outer_of(question[1]), set()

    def lets_by(self, told, paper):
        if not self.is_tree(paper, {}) or type(told) is not list:
            return False
        if not all(type(line) is tuple and all(type(knot) is int for knot in line) for line in told):
            return False
        return told == sorted(set(told)) and set(told) == self.told

    def is_tree(self, tree, picks):
        if type(tree) is not tuple or not tree or type(tree[0]) is not str:
            return False
        free = [name for name in self.outer if name not in picks]
        if tree == ("told",):
            if free or not all(self.second.holds(row, picks) for row in self.rows):
                return False
            self.told.add(tuple(picks[name] for name in self.shown))
            return True
        if tree[0] == "fails":
            if len(tree) != 2 or not is_place(tree[1], self.rows):
                return False
            row = self.rows[tree[1]]
            return not stands(row) & set(free) and not self.second.holds(row, picks)
        if tree[0] not in ("pick", "by") or len(tree) != 4 - (tree[0] == "pick") or tree[1] not in free:
            return False
        knots = sorted(self.second.knots)
        if tree[0] == "by":
            if not is_place(tree[2], self.rows):
                return False
            row = self.rows[tree[2]]
            if row[0] != "tie" or row[1] == row[3] or tree[1] not in row[1::2] or stands(row) - {tree[1]} - set(picks):
                return False
            knots = knots_by(self.second, row, tree[1], picks)
        return self.are_branches(tree[-1], tree[1], knots, picks)

    def are_branches(self, branches, name, knots, picks):
        if type(branches) is not tuple or not all(type(branch) is tuple and len(branch) == 2 for branch in branches):
            return False
        if [branch[0] for branch in branches] != knots or not all(type(branch[0]) is int for branch in branches):
            return False
        return all(self.is_tree(tree, {**picks, name: knot}) for knot, tree in branches)


def some_tree(chance, second, rows, picks):
    """Any tree that is as told: fails early or late, variables in any order, by any ties or by none."""
    free = [name for name in outer_of(rows) if name not in picks]
    fails = [at for at, row in enumerate(rows) if not stands(row) & set(free) and not second.holds(row, picks)]
    if fails and (not free or chance.random() < 0.5):
        return ("fails", chance.choice(fails))
    if not free:
        return ("told",)
    leads = [(name, at) for at, row in enumerate(rows) for name in free
             if row[0] == "tie" and name in row[1::2] and row[1] != row[3] and not stands(row) - {name} - set(picks)]
    name, at = chance.choice(free), None
    knots = sorted(second.knots)
    if leads and chance.random() < 0.6:
        name, at = chance.choice(leads)
        knots = knots_by(second, rows[at], name, picks)
    branches = tuple((knot, some_tree(chance, second, rows, {**picks, name: knot})) for knot in knots)
    return ("pick", name, branches) if at is None else ("by", name, at, branches)


def words(tree):
    """The words of a tree."""
    found = {tree[0]}
    for branch in tree[-1] if tree[0] in ("pick", "by") else ():
        found |= words(branch[1])
    return found


class OneTree(unittest.TestCase):
    def assert_judged(self, told, paper, question=TIED, web=WEB, expect=None):
        ahead = copy.deepcopy((told, paper))
        judged = Judge(web, question).lets_by(told, paper)
        self.assertIs(bars_more(web, question, told, paper), judged)
        self.assertEqual((told, paper), ahead)
        if expect is not None:
            self.assertIs(judged, expect)

    def test_the_tree(self):
        self.assertEqual(answer(WEB, TIED), [(0, 1), (1, 2)])
        self.assert_judged([(0, 1), (1, 2)], TREE, expect=True)
        paper = barring(WEB, TIED)
        self.assert_judged([(0, 1), (1, 2)], paper, expect=True)
        self.assertEqual(barring(web=WEB, question=TIED), paper)
        self.assertIs(bars_more(web=WEB, question=TIED, told=[(0, 1), (1, 2)], paper=paper), True)

    def test_no_other_list(self):
        for paper in (TREE, barring(WEB, TIED)):
            for told in ([(0, 1)], [(1, 2)], [], [(0, 1), (1, 2), (2, 2)], [(0, 0), (0, 1), (1, 2)], [(1, 2), (0, 1)],
                         [(0, 1), (0, 1), (1, 2)], [(0, 1), (1, 2), (1, 2)], ((0, 1), (1, 2)), [[0, 1], [1, 2]], [(0, 1), [1, 2]],
                         [(0, 1), (1, 2, 3)], [(0, 1), (1,)], [(False, 1), (1, 2)], [(0, True), (1, 2)], [(0, 1), (True, 2)],
                         [(0, 1), (1, "b")], [(0, 1), None], [(0, 1), (1, None)], [(0, 1), (1, 2), ()], [()], [(1, 0), (2, 1)],
                         {(0, 1): 1, (1, 2): 1}, "told", None, True, 2):
                self.assert_judged(told, paper, expect=False)
            for told in anything():
                self.assert_judged(told, paper, expect=False)

    def test_nothing_shown(self):
        for row, told in ((("knot", "x", "a"), [()]), (("knot", "x", "z"), [])):
            paper = barring(WEB, ((), (row,)))
            for other in ([], [()], [(), ()], (), [(0,)]):
                self.assert_judged(other, paper, ((), (row,)), expect=other == told and type(other) is list)

    def test_no_outer_variables(self):
        question = ((), (("no", (("knot", "x", "z"),)),))
        self.assertEqual(barring(WEB, question), ("told",))
        self.assert_judged([()], ("told",), question, expect=True)
        self.assert_judged([], ("told",), question, expect=False)
        self.assert_judged([()], ("fails", 0), question, expect=False)
        question = ((), (("no", (("any", "x"),)), ("no", (("knot", "y", "z"),))))
        self.assertEqual(barring(WEB, question), ("fails", 0))
        self.assert_judged([], ("fails", 0), question, expect=True)
        self.assert_judged([], ("fails", 1), question, expect=False)
        self.assert_judged([()], ("told",), question, expect=False)

    def test_the_empty_web(self):
        question = (("x",), (("any", "x"),))
        self.assertEqual(barring(Web(), question), ("pick", "x", ()))
        self.assert_judged([], ("pick", "x", ()), question, Web(), True)
        self.assert_judged([], ("pick", "y", ()), question, Web(), False)
        self.assert_judged([()], ("pick", "x", ()), question, Web(), False)
        self.assert_judged([], ("told",), question, Web(), False)

    def test_branches(self):
        zero, one, two = TREE[2]
        told = [(0, 1), (1, 2)]
        for branches in ((zero, one), (zero, one, two, two), (zero, zero, one, two), (one, zero, two), (zero, two, one),
                         (zero, one, (3, two[1])), ((False, zero[1]), one, two), (zero, (True, one[1]), two), [zero, one, two],
                         (zero, one, list(two)), (zero, one, two + (1,)), (zero, one, two[:1]), (zero, one, None), (), None,
                         (zero, one, (2,)), (zero, one, ("b", two[1])), (zero, one, ([], two[1])), {0: zero[1]}):
            self.assert_judged(told, ("pick", "x", branches), expect=False)
        for at in range(2):
            branch = TREE[2][at]
            tree = branch[1]
            for other in (("by", "y", 0, ()), ("by", "y", 0, tree[3] * 2), ("by", "y", 0, ((0, ("fails", 0)),) + tree[3]),
                          ("by", "x", 0, tree[3]), ("by", "y", 1, tree[3]), ("by", "y", False, tree[3]), ("by", "y", 2, tree[3]),
                          ("by", "y", -2, tree[3]), ("by", "y", None, tree[3]), ("by", "z", 0, tree[3]), ("by", "y", tree[3]),
                          ("pick", "y", tree[3]), ("pick", "y", 0, tree[3]), ("told",), ("fails", 0), ("fails", 1), ("fails",)):
                self.assert_judged(told, ("pick", "x", TREE[2][:at] + ((branch[0], other),) + TREE[2][at + 1:]), expect=False)

    def test_by_from_both_ends(self):
        back = ("pick", "y", ((0, ("by", "x", 0, ())), (1, ("by", "x", 0, ((0, ("told",)),))), (2, ("by", "x", 0, ((1, ("told",)),)))))
        self.assert_judged([(0, 1), (1, 2)], back, expect=True)
        self.assert_judged([(0, 1), (1, 2)], ("by", "x", 0, ()), expect=False)
        self.assert_judged([], ("by", "x", 0, ()), expect=False)

    def test_by_leads_by_ties_of_two_variables_alone(self):
        rows = (("any", "x"), ("tie", "x", "u", "x"), ("way", "x", "t", "y", 1), ("no", (("tie", "x", "t", "y"),)), ("any", "y"))
        need_question((("x",), rows))
        for at in range(5):
            for name in ("x", "y"):
                inner = tuple((knot, ("by", name, at, ())) for knot in range(3))
                self.assert_judged([], ("pick", "x", inner), (("x",), rows), expect=False)
        self.assert_judged([], ("by", "x", 1, ()), (("x",), rows), expect=False)

    def test_picked_twice_and_what_is_not_outer(self):
        question = (("x",), (("knot", "x", "a"), ("no", (("tie", "x", "u", "z"),))))
        ends = (("told",), ("told",), ("fails", 0))
        self.assert_judged([(0,), (1,)], ("pick", "x", tuple(enumerate(ends))), question, expect=True)
        for name in ("x", "z", "y", "t", "", None, 0, ["x"], ("x",), {}):
            twice = tuple((knot, ("pick", name, tuple((other, ends[knot]) for other in range(3)))) for knot in range(3))
            self.assert_judged([(0,), (1,)], ("pick", "x", twice), question, expect=False)
            again = ("pick", name, tuple(enumerate(ends)))
            self.assert_judged([(0,), (1,)], ("pick", "x", tuple((knot, again) for knot in range(3))), question, expect=False)
        tied = ("pick", "x", tuple((knot, ("by", "y", 0, tuple((far, ("pick", "x", TREE[2])) for far in range(1, 3)[knot:knot + 1])))
                                   for knot in range(3)))
        self.assert_judged([(0, 1), (1, 2)], tied, expect=False)

    def test_fails_early_late_and_where_it_holds(self):
        question = (("x",), (("knot", "x", "a"), ("any", "y"), ("holds", "x", "p", "same", 5), ("unlike", "x", "y")))
        early = ("pick", "x", ((0, ("fails", 2)), (1, ("pick", "y", ((0, ("told",)), (1, ("fails", 3)), (2, ("told",))))), (2, ("fails", 0))))
        self.assert_judged([(1,)], early, question, expect=True)
        late = tuple((knot, ("fails", 0 if knot == 2 else 2)) for knot in range(3))
        self.assert_judged([(1,)], ("pick", "x", ((0, ("pick", "y", tuple((knot, ("fails", 2)) for knot in range(3)))),) + early[2][1:]),
                           question, expect=True)
        self.assert_judged([(1,)], ("pick", "y", tuple((knot, ("pick", "x", late)) for knot in range(3))), question, expect=False)
        for at in (0, 1, 2, 3, 4, -1, -2, True, False, None, "a", (2,), [], {}):
            for place in range(3):
                tree = ("pick", "x", early[2][:place] + ((place, ("fails", at)),) + early[2][place + 1:])
                self.assert_judged([(1,)], tree, question)
                self.assert_judged([], tree, question)
        self.assert_judged([], ("fails", 0), question, expect=False)
        self.assert_judged([], ("told",), question, expect=False)

    def test_places_from_the_end_are_none(self):
        question = (("x",), (("knot", "x", "z"),))
        for at in (0, -1, 1):
            self.assert_judged([], ("pick", "x", tuple((knot, ("fails", at)) for knot in range(3))), question, expect=at == 0)
        self.assert_judged([(0, 1), (1, 2)], ("pick", "x", tuple((knot, ("by", "y", -2, tree[3])) if knot < 2 else (knot, tree)
                                                                 for knot, tree in TREE[2])), expect=False)

    def test_a_barred_tuple_is_at_no_told(self):
        left = seen(WEB, [("one", 2)])
        self.assert_judged([(0, 1)], barring(left, TIED), web=left, expect=True)
        self.assert_judged([(0, 1), (1, 2)], barring(left, TIED), web=left, expect=False)
        self.assert_judged([(0, 1), (1, 2)], TREE, web=left, expect=False)
        self.assert_judged([(0, 1)], barring(left, TIED), expect=False)

    def test_anything(self):
        told = [(0, 1), (1, 2)]
        for sample in anything():
            for paper in (sample, (sample,), ("told", sample), ("fails", sample), ("pick", sample, TREE[2]), ("pick", "x", sample),
                          ("pick", "x", (sample,)), ("by", sample, 0, ()), ("by", "x", sample, ()), ("by", "x", 0, sample),
                          ("pick", "x", ((sample, ("told",)),)), ("pick", "x", TREE[2][:2] + ((2, sample),)),
                          ("pick", "x", TREE[2] + (sample,)), (sample,) + TREE[1:], TREE + (sample,)):
                self.assert_judged(told, paper, expect=False)
                self.assert_judged([], paper, expect=False)


class ManyTrees(unittest.TestCase):
    def samples(self, seed, count, **bounds):
        chance = random.Random(seed)
        for _ in range(count):
            web = some_web(chance, **bounds)
            yield chance, web, some_answered(chance, web)

    def test_the_told_tree_is_let_by_with_the_answer_alone(self):
        full = 0
        for chance, web, question in self.samples(22, 500, knots=4):
            rows, told = rows_of(web), Second(web).answer(question)
            paper = barring(web, question)
            self.assertIs(bars_more(web, question, told, paper), True, (rows, question))
            self.assertTrue(Judge(web, question).lets_by(told, paper))
            self.assertEqual((barring(web, question), rows_of(web)), (paper, rows))
            others = [told[:-1], told[1:], told + told[-1:], told[::-1], tuple(told), told + [(77,) * len(question[0])],
                      [list(line) for line in told]]
            for other in others:
                self.assertIs(bars_more(web, question, other, paper), other == told)
            full += len(told) > 1
        self.assertGreater(full, 80)

    def test_trees_made_otherwise(self):
        seen_words = set()
        for chance, web, question in self.samples(220, 400, knots=3):
            told, tree = Second(web).answer(question), some_tree(chance, Second(web), question[1], {})
            self.assertIs(bars_more(web, question, told, tree), True, (rows_of(web), question, tree))
            seen_words |= words(tree)
            other = some_web(chance, knots=3)
            for list_ in (told, Second(other).answer(question)):
                self.assertIs(bars_more(other, question, list_, tree), Judge(other, question).lets_by(list_, tree))
        self.assertEqual(seen_words, {"pick", "by", "fails", "told"})

    def test_one_thing_of_a_tree_otherwise(self):
        let_by = kept_out = 0
        chance = random.Random(221)
        pool = [0, 1, 2, True, False, None, (), [], "x", "y", "told", "fails", ("told",), ("fails", 0), ("fails", 1)]
        while kept_out < 20000:
            web, question = some_web(chance, knots=3), some_question(chance, variables=2)
            told, tree = Second(web).answer(question), some_tree(chance, Second(web), question[1], {})
            if not told and chance.random() < 0.8:
                continue
            for other in variants(tree, pool):
                judged = Judge(web, question).lets_by(told, other)
                self.assertIs(bars_more(web, question, told, other), judged, (rows_of(web), question, told, other))
                let_by += judged
                kept_out += not judged
        self.assertGreater(let_by, 200)

    def test_twelve_knots(self):
        web = Web([(knot, "ab"[knot % 2], {}) for knot in range(12)], [(tie, "t", tie % 12, tie * tie % 7, 1) for tie in range(40)])
        for question in ((("x", "y", "z"), (("tie", "x", "t", "y"), ("tie", "z", "t", "y"), ("unlike", "x", "z"))),
                         (("w",), (("any", "x"), ("any", "y"), ("any", "z"), ("knot", "w", "a"))),
                         (("x",), (("way", "x", "t", "y", 2), ("no", (("tie", "y", "t", "x"),))))):
            told = answer(web, question)
            self.assertTrue(told)
            self.assertIs(bars_more(web, question, told, barring(web, question)), True)
            self.assertIs(bars_more(web, question, told[1:], barring(web, question)), False)


if __name__ == "__main__":
    unittest.main()
