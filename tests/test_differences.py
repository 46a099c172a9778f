"""Point 15: the difference of two webs."""

import random
import unittest

from tests.asking import rows_of, some_web
from websplit.differences import difference
from websplit.webs import Web
from websplit.webtexts import read_web

KNOTS = [(2, "a", {"p": 1, "q": "x"}), (10, "b", {}), (9, "a", {"p": 1})]
TIES = [(2, "t", 2, 10, 5), (10, "t", 10, 10, 1), (9, "u", 9, 2, 7)]


def second(one, other):
    """A second difference, by sets."""
    knots, ties = [], []
    for web in (one, other):
        rows = rows_of(web)
        knots.append({(number, kind) for number, kind, _ in rows[0]})
        ties.append(set(rows[1]))
    both = set(one.knots()) & set(other.knots())
    worths = [{(knot, name, worth) for knot in both for name, worth in web.worths(knot).items()} for web in (one, other)]
    return (sorted({row[0] for row in knots[0] ^ knots[1]}), sorted({row[:2] for row in worths[0] ^ worths[1]}),
            sorted({row[0] for row in ties[0] ^ ties[1]}))


class Differences(unittest.TestCase):
    def assert_otherwise(self, knots, ties, told):
        one, other = Web(KNOTS, TIES), Web(knots, ties)
        self.assertEqual(difference(one, other), told)
        self.assertEqual(difference(other, one), told)
        self.assertEqual(difference(one=one, other=other), told)
        self.assertEqual((one, other), (Web(KNOTS, TIES), Web(knots, ties)))

    def test_knots_that_came_went_or_are_of_another_kind(self):
        self.assert_otherwise(KNOTS + [(0, "a", {}), (999, "b", {})], TIES, ([0, 999], [], []))
        self.assert_otherwise(KNOTS[:2], [], ([9], [], [2, 9, 10]))
        self.assert_otherwise([KNOTS[0], (10, "a", {}), (9, "b", {"p": 1})], TIES, ([9, 10], [], []))
        self.assert_otherwise([], [], ([2, 9, 10], [], [2, 9, 10]))

    def test_worths_of_knots_of_both_alone(self):
        self.assert_otherwise([(2, "a", {"p": 2, "q": "x"}), *KNOTS[1:]], TIES, ([], [(2, "p")], []))
        self.assert_otherwise([(2, "a", {"p": 1, "q": "y"}), *KNOTS[1:]], TIES, ([], [(2, "q")], []))
        self.assert_otherwise([(2, "a", {"p": 1}), *KNOTS[1:]], TIES, ([], [(2, "q")], []))
        self.assert_otherwise([(2, "a", {"p": 1, "q": "x", "r": 0}), *KNOTS[1:]], TIES, ([], [(2, "r")], []))
        self.assert_otherwise([(2, "a", {"p": "one", "q": "x"}), *KNOTS[1:]], TIES, ([], [(2, "p")], []))
        self.assert_otherwise([*KNOTS, (5, "a", {"p": 1, "q": 2})], TIES, ([5], [], []))
        self.assert_otherwise([*KNOTS[:2]], TIES[:2], ([9], [], [9]))

    def test_a_knot_of_another_kind_is_of_both(self):
        self.assert_otherwise([(2, "b", {"p": 1, "q": "y"}), *KNOTS[1:]], TIES, ([2], [(2, "q")], []))

    def test_worths_rise_by_knot_and_name(self):
        knots = [(2, "a", {"a": 0, "z": 0}), (10, "b", {"b": 1, "a": 1}), (9, "a", {"p": 2})]
        self.assert_otherwise(knots, TIES, ([], [(2, "a"), (2, "p"), (2, "q"), (2, "z"), (9, "p"), (10, "a"), (10, "b")], []))

    def test_ties_that_came_went_or_are_otherwise(self):
        self.assert_otherwise(KNOTS, TIES + [(11, "t", 2, 2, 1), (1, "t", 2, 2, 1)], ([], [], [1, 11]))
        self.assert_otherwise(KNOTS, TIES[1:], ([], [], [2]))
        for row in ((2, "u", 2, 10, 5), (2, "t", 9, 10, 5), (2, "t", 2, 9, 5), (2, "t", 10, 2, 5), (2, "t", 2, 10, 6)):
            self.assert_otherwise(KNOTS, [row] + TIES[1:], ([], [], [2]))
        self.assert_otherwise(KNOTS, [(12,) + TIES[0][1:]] + TIES[1:], ([], [], [2, 12]))

    def test_equal_webs(self):
        self.assert_otherwise(KNOTS[::-1], TIES[::-1], ([], [], []))
        self.assertEqual(difference(Web(), Web()), ([], [], []))
        web = Web(KNOTS, TIES)
        self.assertEqual(difference(web, web), ([], [], []))

    def test_what_is_told_is_a_tuple_of_three_lists_of_the_askers_own(self):
        one, other = read_web("knot 1 a p=1"), read_web("knot 1 b p=2\ntie 1 t 1 1 1")
        told = difference(one, other)
        self.assertEqual((type(told), [type(part) for part in told]), (tuple, [list, list, list]))
        for part in told:
            part.append(77)
        self.assertEqual(difference(one, other), ([1], [(1, "p")], [1]))
        self.assertEqual(difference(one, one), ([], [], []))

    def test_beside_a_second_difference(self):
        chance = random.Random(15)
        for _ in range(500):
            one, other = some_web(chance), some_web(chance)
            self.assertEqual(difference(one, other), second(one, other))
            self.assertEqual(difference(other, one), second(one, other))


if __name__ == "__main__":
    unittest.main()
