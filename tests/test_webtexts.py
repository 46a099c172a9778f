"""Point 12: webs in rows."""

import copy
import random
import re
import unittest

from tests.samples import anything, changed, some_rows
from websplit.errors import NoText
from websplit.webs import Web
from websplit.webtexts import read_web, show_web

NUMBER = "(0|[1-9][0-9]{0,2})"
PAIR = "[a-z]{1,8}=(?:[a-z]{1,12}|0|-?[1-9][0-9]{0,8})"
KNOT = re.compile(f"knot {NUMBER} ([a-z]{{1,8}})((?: {PAIR}){{0,6}})")
TIE = re.compile(f"tie {NUMBER} ([a-z]{{1,8}}) {NUMBER} {NUMBER} (1000|[1-9][0-9]{{0,2}})")
SIGNS = " =\n-0159abkz~Z%"
TEXT = "knot 3 person age=30 town=rome\nknot 9 person\ntie 4 knows 3 9 12"


def first_wrong(text):
    """A second reading: the first wrong row of a text, or None."""
    knots, ties = [], []
    for at, row in enumerate(text.split("\n") if text else ()):
        knot, tie = KNOT.fullmatch(row), TIE.fullmatch(row)
        if knot:
            names = [pair.split("=")[0] for pair in knot[3].split()]
            right = not ties and names == sorted(set(names)) and len(knots) < 60
            right = right and all(number < int(knot[1]) for number in knots)
            knots.append(int(knot[1]))
        elif tie:
            right = int(tie[3]) in knots and int(tie[4]) in knots and len(ties) < 120
            right = right and all(number < int(tie[1]) for number in ties)
            ties.append(int(tie[1]))
        else:
            right = False
        if not right:
            return at
    return None


def rows_changed(text, chance):
    """A text of which one row, or one word, is otherwise."""
    rows = text.split("\n")
    at, to = chance.randrange(len(rows)), chance.randrange(len(rows))
    deed = chance.randrange(7)
    if deed == 0:
        rows.insert(to, rows.pop(at))
    elif deed == 1:
        del rows[at]
    elif deed == 2:
        rows.insert(to, rows[at])
    elif deed == 3:
        rows[at], rows[to] = rows[to], rows[at]
    else:
        rows[at] = words_changed(rows[at], chance, deed)
    return "\n".join(rows)


def words_changed(row, chance, deed):
    words = row.split(" ")
    at = chance.randrange(len(words))
    if deed == 4:
        del words[at]
    elif deed == 5:
        words.insert(at, chance.choice(words))
    else:
        words[at] = chance.choice(("0", "00", "1", "1000", "1001", "-1", "knot", "tie", "a=1", "a=", "=1", "", "person"))
    return " ".join(words)


class Shown(unittest.TestCase):
    def test_as_told(self):
        web = Web([(9, "person", {}), (3, "person", {"town": "rome", "age": 30})], [(4, "knows", 3, 9, 12)])
        self.assertEqual(show_web(web), TEXT)
        self.assertEqual(show_web(web=web), TEXT)
        self.assertEqual(show_web(Web()), "")

    def test_numbers_rise_as_numbers(self):
        knots = [(number, "a", {}) for number in (999, 100, 99, 10, 9, 0)]
        ties = [(number, "b", 9, 9, 1000) for number in (100, 99, 10, 9, 999)]
        rows = [f"knot {number} a" for number in (0, 9, 10, 99, 100, 999)]
        rows += [f"tie {number} b 9 9 1000" for number in (9, 10, 99, 100, 999)]
        self.assertEqual(show_web(Web(knots, ties)), "\n".join(rows))

    def test_worths_at_their_ends(self):
        worths = {"f": -999999999, "e": 999999999, "d": 0, "c": "abcdefghijkl", "b": "a", "a": -1}
        told = "knot 0 abcdefgh a=-1 b=a c=abcdefghijkl d=0 e=999999999 f=-999999999"
        self.assertEqual(show_web(Web([(0, "abcdefgh", worths)])), told)
        self.assertEqual(read_web(told).worths(0), worths)

    def test_the_web_stays(self):
        web = read_web(TEXT)
        show_web(web)
        self.assertEqual(web, read_web(TEXT))


class Read(unittest.TestCase):
    def assert_refused(self, text, row):
        with self.assertRaises(NoText) as caught:
            read_web(text)
        # Only a text is shown: Python writes no number of too many figures.
        self.assertEqual(caught.exception.row, row, text[:200] if isinstance(text, str) else "no text")

    def test_as_told(self):
        web = read_web(TEXT)
        self.assertEqual((web.knots(), web.ties()), ([3, 9], [4]))
        self.assertEqual((web.kind(3), web.worths(3), web.worths(9)), ("person", {"age": 30, "town": "rome"}, {}))
        self.assertEqual(web.tie(4), ("knows", 3, 9, 12))
        self.assertEqual(read_web(text=TEXT), web)
        self.assertEqual(read_web(""), Web())

    def test_what_is_shown_is_read(self):
        chance = random.Random(12)
        for knots, ties in ((0, 0), (1, 0), (1, 3), (5, 9), (12, 20), (30, 60), (60, 120)) * 10:
            web = Web(*some_rows(chance, knots, ties))
            text = show_web(web)
            self.assertIsNone(first_wrong(text))
            self.assertEqual(read_web(text), web)
            self.assertEqual(show_web(read_web(text)), text)

    def test_things_otherwise_are_read_rightly_or_refused(self):
        chance = random.Random(13)
        refused = 0
        for _ in range(6000):
            text = show_web(Web(*some_rows(chance, chance.randint(1, 6), chance.randint(0, 6))))
            text = changed(text, chance, SIGNS) if chance.random() < 0.5 else rows_changed(text, chance)
            wrong = first_wrong(text)
            if wrong is None:
                self.assertEqual(show_web(read_web(text)), text)
            else:
                self.assert_refused(text, wrong)
                refused += 1
        self.assertGreater(refused, 2000)

    def test_wrong_knot_rows(self):
        wrong = (
            "", " ", "knot", "knot 3", "knot 3 ", "knot  3 a", "knot 3 a ", " knot 3 a", "Knot 3 a", "knots 3 a",
            "knot 03 a", "knot -0 a", "knot -1 a", "knot +3 a", "knot 1000 a", "knot x a", "knot 3 A", "knot 3 abcdefghi",
            "knot 3 a1", "knot 3 a=1", "knot 3 a b", "knot 3 a b=", "knot 3 a =1", "knot 3 a =", "knot 3 a b=1=2",
            "knot 3 a b==1", "knot 3 a b=01", "knot 3 a b=-0", "knot 3 a b=1000000000", "knot 3 a b=-1000000000",
            "knot 3 a b=abcdefghijklm", "knot 3 a b=A", "knot 3 a b=.", "knot 3 a b=[]", "knot 3 a B=1",
            "knot 3 a abcdefghi=1", "knot 3 a c=1 b=1", "knot 3 a b=1 b=2", "knot 3 a b=1 b=1", "knot 3 a b=1  c=1",
            "knot 3 a a=1 b=1 c=1 d=1 e=1 f=1 g=1", "knot 3 a\tb=1", "knot 3 a\r", "knot 3 a b=" + "1" * 5000,
            "knot " + "1" * 5000 + " a", "knot \u0663 a", "knot 3 \u00e9",
        )
        for row in wrong:
            if row:
                self.assert_refused(row, 0)
            self.assert_refused("knot 2 a\n" + row, 1)
            self.assert_refused("knot 2 a\n" + row + "\nknot 4 a", 1)

    def test_wrong_tie_rows(self):
        ahead = "knot 2 a\nknot 3 a\ntie 4 b 2 2 1\n"
        self.assertEqual(read_web(ahead + "tie 5 b 2 3 1000").tie(5), ("b", 2, 3, 1000))
        wrong = (
            "", "tie", "tie 5", "tie 5 b 2 3", "tie 5 b 2 3 ", "tie 5 b 2 3 1 ", "tie 5 b 2 3 1 1", "tie 05 b 2 3 1",
            "tie 4 b 2 3 1", "tie 3 b 2 3 1", "tie 1000 b 2 3 1", "tie -1 b 2 3 1", "tie 5 B 2 3 1",
            "tie 5 abcdefghi 2 3 1", "tie 5 b 1 3 1", "tie 5 b 2 4 1", "tie 5 b 02 3 1", "tie 5 b 2 03 1",
            "tie 5 b x 3 1", "tie 5 b 2 x 1", "tie 5 b 2 3 0", "tie 5 b 2 3 1001", "tie 5 b 2 3 01", "tie 5 b 2 3 -1",
            "tie 5 b 2 3 a", "tie  5 b 2 3 1", "Tie 5 b 2 3 1", "tie 5 b 2 3 1\r", "knot 4 a", "tie 5  2 3 1",
        )
        for row in wrong:
            self.assert_refused(ahead + row, 3)
            self.assert_refused(ahead + row + "\ntie 9 b 2 3 1", 3)

    def test_numbers_must_rise(self):
        self.assert_refused("knot 10 a\nknot 9 a", 1)
        self.assert_refused("knot 9 a\nknot 9 a", 1)
        self.assert_refused("knot 9 a\nknot 10 a\nknot 9 b", 2)
        self.assert_refused("knot 9 a\ntie 10 a 9 9 1\ntie 9 a 9 9 1", 2)
        self.assert_refused("tie 1 a 9 9 1\nknot 9 a", 0)
        self.assertEqual(read_web("knot 9 a\ntie 9 a 9 9 1").ties(), [9])

    def test_line_feeds_at_an_end(self):
        self.assert_refused("\n", 0)
        self.assert_refused("\n" + TEXT, 0)
        self.assert_refused(TEXT + "\n", 3)
        self.assert_refused(TEXT.replace("\n", "\n\n", 1), 1)
        self.assert_refused("knot 1 a\n\n", 1)

    def test_the_most_knots_worths_and_ties(self):
        knots = [f"knot {number} a a=1 b=1 c=1 d=1 e=1 f=1" for number in range(60)]
        ties = [f"tie {number} a 0 59 1" for number in range(120)]
        web = read_web("\n".join(knots + ties))
        self.assertEqual((len(web), len(web.ties()), len(web.worths(59))), (60, 120, 6))
        self.assert_refused("\n".join(knots + ["knot 60 a"]), 60)
        self.assert_refused("\n".join(knots + ["knot 60 a"] + ties), 60)
        self.assert_refused("\n".join(knots + ties + ["tie 120 a 0 1 1"]), 180)

    def test_what_is_no_text(self):
        for sample in anything():
            if not isinstance(sample, str):
                ahead = copy.deepcopy(sample)
                self.assert_refused(sample, 0)
                self.assertEqual(sample, ahead)
        self.assert_refused(b"", 0)


if __name__ == "__main__":
    unittest.main()
