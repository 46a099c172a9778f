"""Points 2 and 10: things, names, worths, their texts."""

import ast
import copy
import random
import re
import unittest

from tests.samples import HUGE, anything, changed, nested
from websplit.errors import NoText
from websplit.things import is_name, is_thing, is_worth, read_thing, written

WORD = re.compile(r"\.|[a-z]{1,12}|0|-?[1-9][0-9]{0,14}")
SIGNS = "[] .-0159abz~Z%\n"
MOST = 999999999999999


def is_text_of_thing(text):
    """A second reading: words become T, then tuples of T become T, at most twelve times."""
    pieces = [piece for piece in re.split(r"([\[\] ])", text) if piece]
    if not all(piece in "[] " or WORD.fullmatch(piece) for piece in pieces):
        return False
    shape = "".join(piece if piece in "[] " else "T" for piece in pieces)
    for _ in range(12):
        shape = re.sub(r"\[(T( T)*)?\]", "T", shape)
    return shape == "T"


def value_of(text):
    """The thing that a right text writes, read by Python itself."""
    text = re.sub(r"[a-z]+", lambda found: repr(found.group()), text)
    text = text.replace(".", "None").replace("[]", "()").replace(" ", ",")
    return ast.literal_eval(text.replace("[", "(").replace("]", ",)"))


def some_thing(chance, within):
    """Any thing of at most so many tuples within one another."""
    if within and chance.random() < 0.6:
        return tuple(some_thing(chance, within - 1) for _ in range(chance.randrange(4)))
    sort = chance.randrange(4)
    if sort == 0:
        return None
    if sort == 1:
        return "".join(chance.choice("abyz") for _ in range(chance.randint(1, 12)))
    return chance.choice((0, 1, -1, 9, 10, -10, 100, MOST, -MOST, chance.randint(-MOST, MOST)))


class Kinds(unittest.TestCase):
    def check(self, test, yes, no):
        # The places are shown, not the things: Python writes no number of too many figures.
        for at, thing in enumerate(yes):
            self.assertIs(test(thing), True, f"yes, at {at}")
        for at, thing in enumerate(no):
            self.assertIs(test(thing), False, f"no, at {at}")

    def test_names(self):
        yes = ["a", "z", "az", "person", "abcdefgh", "knot"]
        no = ["", "abcdefghi", "A", "aB", "a1", "a b", "a\n", "\na", " a", "a_", "`", "{", "\u00e9", "\u00df", "%"]
        no += [None, True, False, 0, 1, HUGE, (), ("a",), [], ["a"], {}, {"a": 1}]
        self.check(is_name, yes, no)
        self.assertIs(is_name(thing="a"), True)

    def test_worths(self):
        yes = [0, 1, -1, 999999999, -999999999, "a", "z", "abcdefghijkl"]
        no = [1000000000, -1000000000, HUGE, -HUGE, "", "abcdefghijklm", "A", "3", "a\n", "a b", "\u00e9"]
        no += [None, True, False, (), (1,), ("a",), [], [1], {}, {1: 1}]
        self.check(is_worth, yes, no)
        self.assertIs(is_worth(thing=7), True)

    def test_things(self):
        yes = [None, 0, 1, -1, MOST, -MOST, "a", "z", "abcdefghijkl", (), (None,), (1, "a", None, ((),))]
        yes += [nested(12), nested(12, core=(1, "a")), (1,) * 500]
        no = [True, False, MOST + 1, -MOST - 1, HUGE, -HUGE, "", "abcdefghijklm", "A", "3", "a b", "a\n", "\u00e9"]
        no += [(True,), (1, (False,)), ("A",), (MOST + 1,), ([],), ({},), (1, [1]), [], [1], {}, {1: 1}]
        no += [nested(13), nested(14), nested(16), nested(16, list), nested(12, core=((),)), nested(100)]
        self.check(is_thing, yes, no)
        self.assertIs(is_thing(thing=None), True)

    def test_tell_truths_of_anything_and_leave_it_as_it_is(self):
        for test in (is_thing, is_name, is_worth):
            samples = anything()
            ahead = copy.deepcopy(samples)
            for sample in samples:
                self.assertIn(test(sample), (True, False))
                self.assertIsInstance(test(sample), bool)
            self.assertEqual(samples, ahead)


class Texts(unittest.TestCase):
    TOLD = (
        (None, "."), (0, "0"), (7, "7"), (-7, "-7"), (10, "10"), (MOST, "999999999999999"),
        (-MOST, "-999999999999999"), ("a", "a"), ("abcdefghijkl", "abcdefghijkl"),
        ((), "[]"), ((None,), "[.]"), ((1, "a", None), "[1 a .]"), (((), ()), "[[] []]"),
        (("knot", 3, "person", (("age", -30),)), "[knot 3 person [[age -30]]]"),
        (nested(12), "[" * 12 + "]" * 12),
    )

    def assert_refused(self, text):
        with self.assertRaises(NoText) as caught:
            read_thing(text)
        self.assertEqual(caught.exception.row, 0)
        self.assertIs(type(caught.exception), NoText)

    def test_are_as_told(self):
        for thing, text in self.TOLD:
            self.assertEqual(written(thing), text)
            self.assertEqual(repr(read_thing(text)), repr(thing))
        self.assertEqual(written(thing=(1,)), "[1]")
        self.assertEqual(read_thing(text="[1]"), (1,))

    def test_of_each_letter_and_figure(self):
        for letter in "abcdefghijklmnopqrstuvwxyz":
            self.assertEqual((is_name(letter), is_worth(letter), is_thing(letter)), (True, True, True))
            for thing in (letter, letter * 12, (letter, "a" + letter, letter + "z"), ((letter,),)):
                self.assertEqual(read_thing(written(thing)), thing)
        for number in range(-120, 121):
            self.assertEqual(read_thing(f"[{number}]"), (number,))
            self.assertEqual(written((number, None)), f"[{number} .]")

    def test_of_any_thing_are_read_as_the_same_thing(self):
        chance = random.Random(10)
        texts = {}
        for _ in range(3000):
            thing = some_thing(chance, chance.randint(0, 12))
            text = written(thing)
            self.assertTrue(is_text_of_thing(text), text)
            self.assertEqual(repr(read_thing(text)), repr(thing))
            self.assertEqual(texts.setdefault(text, repr(thing)), repr(thing))
        self.assertEqual(len(set(texts.values())), len(texts))

    def test_with_signs_otherwise_are_read_rightly_or_refused(self):
        chance = random.Random(11)
        refused = 0
        for _ in range(20000):
            text = changed(written(some_thing(chance, chance.randint(0, 12))), chance, SIGNS)
            if is_text_of_thing(text):
                self.assertEqual(repr(read_thing(text)), repr(value_of(text)), text)
            else:
                self.assert_refused(text)
                refused += 1
        self.assertGreater(refused, 5000)

    def test_that_write_nothing_are_refused(self):
        wrong = """00 01 007 -0 -00 -01 - -- --1 +1 1- 1-1 / : 1/ :1 ` { 1. 1.0 .. .a a. a1 1a A aB a_b ' " 1_0 0x1 1e3 ~ %"""
        for word in wrong.split(" "):
            self.assert_refused(word)
            self.assert_refused(f"[{word}]")
            self.assert_refused(f"[a {word}]")
        for text in ("", " ", "\n", "  ", " a", "a ", "a\n", "\na", "a b", "1 2", "[] []", "[]a", "a[]", "\ta", "a\r"):
            self.assert_refused(text)
        for text in ("[", "]", "[[]", "[]]", "][", "[ ]", "[a ]", "[ a]", "[a  b]", "[a b", "[a]b]", "[a[b]]",
                     "[a][b]", "[[a]b]", "[a,b]", "(a b)", "[a\nb]", "[a] ", " [a]", "[a]\n", "[a\n]", "{}"):
            self.assert_refused(text)

    def test_too_long_or_too_deep_are_refused(self):
        for text in ("1" * 16, "-" + "1" * 16, "a" * 13, "1" * 5000, "a" * 5000, "0" * 16, "\u0663", "\u00e9"):
            self.assert_refused(text)
            self.assert_refused(f"[{text}]")
        for depth in (13, 14, 16, 100, 5000):
            self.assert_refused("[" * depth + "]" * depth)
            self.assert_refused("[" * depth)
        self.assert_refused("[" * 12 + "[]" + "]" * 12)
        self.assert_refused("[a " + "[" * 12 + "]" * 12 + "]")

    def test_of_what_is_no_text_are_refused(self):
        for sample in anything():
            if not isinstance(sample, str):
                ahead = copy.deepcopy(sample)
                self.assert_refused(sample)
                self.assertEqual(sample, ahead)
        self.assert_refused(b"a")


if __name__ == "__main__":
    unittest.main()
