"""Point 36: the desk."""

import copy
import random
import re
import unittest

from tests.asking import some_question
from tests.samples import anything, changed
from tests.storing import BEGIN, outcome, some_turn
from tests.test_things import is_text_of_thing, value_of
from websplit.desk import Desk
from websplit.disks import Disk
from websplit.errors import Gone, Home, Known, Moving, NoBatch, NoKnot, NoMoment, NoMove, NoName, NoPlace, NoQuestion, NoRow
from websplit.store import Store
from websplit.things import written
from websplit.webtexts import show_web

PLACING = (0, 1, 2, 0, 1, 2, 0, 1)
NAME = r"[a-z]{1,8}"
NUMBER = r"(?:0|-?[1-9][0-9]{0,14})"
# How each row is written; a thing is read by a second reading.
FORMS = {
    "tell": (), "go": (), "let": (NUMBER,), "move": (NUMBER, NUMBER), "on": (), "back": (), "ask": (rf"{NAME}|\.", rf"{NUMBER}|\."),
    "keep": (NAME, rf"{NAME}|\."), "kept": (NAME,), "came": (NAME,), "went": (NAME,), "searches": (NAME,), "forget": (NAME,),
    "least": (rf"{NAME}|\.", NUMBER), "parts": (rf"{NAME}|\.",), "web": (rf"{NAME}|\.", rf"{NUMBER}|\."), "placing": (), "moments": (),
}
WITH_A_THING = ("tell", "go", "ask", "keep", "least", "parts")
QUESTION = "[[x y] [[tie x t y]]]"
ROWS = (
    "tell [[put 0 p 5]]", "tell []", "tell [[knot 40 a [[p 1] [q rome]]] [tie 40 t 40 0 1000]]", "go [bar bob [one 3]]", "go [free bob [one 3]]",
    "go [bar]", "let 1", "let 0", "let -1", "move 0 2", "move -1 7", "on", "back", f"ask . . {QUESTION}", f"ask ann 1 {QUESTION}",
    "ask ann . [[] [[any x]]]", "ask . -5 .", f"keep one ann {QUESTION}", "keep two . [[x] [[knot x a]]]", "keep one . 5", "kept one", "came one",
    "went one", "searches one", "forget one", "least . 0 [t]", "least ann 0 [t u]", "least . -3 []", "parts . [t]", "parts ann []", "web . .",
    "web ann 1", "web . -1", "placing", "moments",
)


def is_row(thing):
    """Whether anything is a row of the desk's, by a second reading."""
    if type(thing) is not str:
        return False
    word = thing.split(" ")[0]
    if word not in FORMS:
        return False
    pattern = "".join(f" (?:{form})" for form in FORMS[word])
    if word not in WITH_A_THING:
        return re.fullmatch(word + pattern, thing) is not None
    found = re.fullmatch(word + pattern + " (.*)", thing, re.DOTALL)
    if not found or not is_text_of_thing(found.group(1)):
        return False
    told = value_of(found.group(1))
    if word in ("ask", "keep"):
        return True
    if word == "go":
        return type(told) is tuple and told[:1] in (("bar",), ("free",))
    return type(told) is tuple and (word == "tell" or all(type(kind) is str and len(kind) <= 8 for kind in told))


def begun():
    """A desk, and a store that is told the same."""
    desk, store = Desk(), Store(Disk(), placing=PLACING)
    for batch in (BEGIN, (("bar", "ann", ("one", 1)),)):
        store.tell(batch)
        desk.say("tell " + written(batch))
    return desk, store


def lines(found):
    return written(tuple(found))


def say_too(store, row):
    """What the desk should answer: by what the store tells, written by Python itself."""
    word, *rest = row.split(" ")
    at = len(FORMS[word])
    told = [None if part == "." else int(part) if re.fullmatch(NUMBER, part) else part for part in rest[:at]]
    if word in WITH_A_THING:
        told.append(value_of(" ".join(rest[at:])))
    asks = {
        "tell": lambda batch: str(store.tell(batch)), "go": lambda deed: str(store.tell([deed])), "let": lambda moment: store.let_go(moment),
        "move": store.move, "on": store.move_on, "back": lambda: str(store.move_back()),
        "ask": lambda asker, moment, question: lines(store.ask(question, asker=asker, moment=moment)),
        "keep": lambda name, asker, question: store.keep(name, question, asker=asker), "kept": lambda name: lines(store.kept(name)),
        "came": lambda name: lines(store.came(name)), "went": lambda name: lines(store.went(name)),
        "searches": lambda name: str(store.searches(name)), "forget": store.forget,
        "least": lambda asker, knot, kinds: lines(sorted((far, pair[0]) for far, pair in store.least(knot, kinds, asker=asker).items())),
        "parts": lambda asker, kinds: lines(sorted(store.parts(kinds, asker=asker).items())),
        "web": lambda asker, moment: " / ".join(show_web(store.web(asker=asker, moment=moment)).split("\n")) or ".",
        "placing": lambda: "[" + " ".join(map(str, store.placing())) + "]", "moments": lambda: f"{store.first()} {store.last()}",
    }
    return asks[word](*told) or "ok"


class Said(unittest.TestCase):
    def setUp(self):
        self.desk, self.store = begun()

    def assert_said(self, row, told):
        self.assertEqual(self.desk.say(row), told, row)

    def test_a_new_desk(self):
        desk = Desk()
        for row, told in (("moments", "0 0"), ("placing", "[0 1 2 0 1 2 0 1]"), ("web . .", "."), ("web ann 0", "."), ("parts . [t]", "[]"),
                          ("ask . . [[x] [[any x]]]", "[]"), ("ask . 0 [[] [[no [[any x]]]]]", "[[]]"), ("let 0", "ok")):
            self.assertEqual(desk.say(row), told)
        self.assertEqual(desk.say(row="moments"), "0 0")

    def test_each_row(self):
        for row, told in (
                ("tell [[put 0 p 5] [put 3 q rome]]", "3"), ("go [bar bob [kind b]]", "4"), ("go [free bob [kind b]]", "5"), ("moments", "0 5"),
                ("let 2", "ok"), ("moments", "2 5"), ("let 1", "ok"), ("moments", "2 5"),
                ("ask . . [[x y] [[tie x t y]]]", "[[0 1] [1 2] [8 0] [15 3]]"), ("ask ann . [[x y] [[tie x t y]]]", "[[8 0] [15 3]]"),
                ("ask . 2 [[x] [[knot x b]]]", "[[2] [3] [15]]"), ("ask . . [[] [[knot x z]]]", "[]"), ("ask . . [[] [[knot x a]]]", "[[]]"),
                ("keep one ann [[x] [[knot x a]]]", "ok"), ("kept one", "[[0] [8]]"), ("came one", "[]"), ("searches one", "1"),
                ("tell [[knot 16 a []] [knot 24 a [[p -7]]] [cut 3]]", "6"), ("kept one", "[[0] [8] [16] [24]]"), ("came one", "[[16] [24]]"),
                ("went one", "[]"), ("searches one", "2"), ("tell [[drop 16]]", "7"), ("went one", "[[16]]"), ("came one", "[]"), ("forget one", "ok"),
                ("least . 8 [t]", "[[0 5] [1 7] [2 11] [8 0]]"), ("least ann 8 [t]", "[[0 5] [8 0]]"), ("least . 8 []", "[[8 0]]"),
                ("parts . [t u]", "[[0 0] [1 0] [2 0] [3 3] [8 0] [15 3] [24 24]]"), ("parts ann []", "[[0 0] [2 2] [3 3] [8 8] [15 15] [24 24]]"),
                ("move 0 2", "ok"), ("placing", "[0 1 2 0 1 2 0 1]"), ("on", "copied"), ("on", "moved"), ("placing", "[2 1 2 0 1 2 0 1]"),
                ("move 7 5", "ok"), ("back", "7"), ("move 7 5", "ok"), ("on", "copied"), ("back", "7"), ("placing", "[2 1 2 0 1 2 0 1]")):
            self.assert_said(row, told)

    def test_web(self):
        desk = Desk()
        desk.say("tell [[knot 3 person [[age 30] [town rome]]] [knot 9 person []] [tie 4 knows 3 9 12]]")
        desk.say("go [bar ann [one 9]]")
        self.assertEqual(desk.say("web . ."), "knot 3 person age=30 town=rome / knot 9 person / tie 4 knows 3 9 12")
        self.assertEqual((desk.say("web ann ."), desk.say("web ann 1")), ("knot 3 person age=30 town=rome",) * 2)
        self.assertEqual((desk.say("web . 0"), desk.say("web . 2")), (".", desk.say("web . 1")))

    def test_names_that_are_words_of_the_desk(self):
        self.assert_said("keep keep keep [[x] [[any x]]]", "ok")
        self.assert_said("kept keep", "[[0] [1] [2] [3] [8] [15]]")
        self.assert_said("forget keep", "ok")

    def test_beside_a_store(self):
        chance = random.Random(36)
        kinds = {}
        for _ in range(20):
            desk, store = begun()
            for _ in range(60):
                row = self.some_row(chance, store)
                told = outcome(say_too, store, row)
                self.assertEqual(outcome(desk.say, row), told, row)
                kinds[row.split(" ")[0]] = kinds.get(row.split(" ")[0], 0) + (told[0] == "told")
        self.assertEqual(set(kinds), set(FORMS))
        self.assertGreater(min(kinds.values()), 3, kinds)

    def some_row(self, chance, store):
        """A row that mostly can be."""
        asker, moment = chance.choice(("ann", "bob", ".")), chance.choice((".", ".", store.last(), 0, store.last() + 1, -1))
        question, name = written(some_question(chance, variables=2)), chance.choice("ab")
        kinds = chance.choice(("[]", "[t]", "[u t]"))
        return chance.choice((self.told_row(some_turn(chance, store)), self.told_row(some_turn(chance, store)),
                              f"go [bar {chance.choice(('ann', 'bob'))} [one {chance.randrange(20)}]]", f"ask {asker} {moment} {question}",
                              f"ask . . {question}", *[f"keep {name} {asker} {question}"] * 3, f"kept {name}", f"came {name}", f"went {name}", f"searches {name}", f"forget {name}", "on", "back",
                              f"move {chance.randrange(9)} {chance.randrange(4)}", f"least {asker} {chance.randrange(10)} {kinds}",
                              f"parts {asker} {kinds}", f"web {asker} {moment}", "placing", "moments", f"let {chance.randint(0, store.last())}"))

    def told_row(self, turn):
        word, *told = turn
        if word == "keep":
            return f"keep {told[0]} {told[2] or '.'} {written(told[1])}"
        words = {"tell": "tell", "let_go": "let", "forget": "forget", "move": "move", "move_on": "on", "move_back": "back"}
        return " ".join([words[word], *map(written, told)])


class Refused(unittest.TestCase):
    def setUp(self):
        self.desk, self.store = begun()
        self.desk.say(f"keep one ann {QUESTION}")

    def all_told(self, desk):
        rows = ("moments", "placing", "web . .", "web ann .", "parts . [t u]", "least . 0 [t u]", "kept one", "came one", "went one", "searches one")
        return [outcome(desk.say, row) for row in rows]

    def assert_no_row(self, row):
        ahead = self.all_told(self.desk)
        kind, told = outcome(self.desk.say, row)
        self.assertIs(kind, NoRow)
        self.assertEqual(list(told), ["asked"])
        self.assertIs(told["asked"], row)
        self.assertEqual(self.all_told(self.desk), ahead)

    def test_of_anything(self):
        for thing in anything() + [["moments"], ("moments",), b"moments", {"moments": 1}, "", " ", "moment", "Moments", "moments "]:
            ahead = copy.deepcopy(thing)
            self.assert_no_row(thing)
            self.assertEqual(thing, ahead)

    def test_each_row_otherwise(self):
        for row in ROWS:
            self.assertIs(is_row(row), True, row)
            self.assertIsNot(outcome(begun()[0].say, row)[0], NoRow, row)
            words = row.split(" ")
            for wrong in (" " + row, row + " ", row + "\n", "\n" + row, row.upper(), row.capitalize(), row.replace(" ", "  ", 1) + " x",
                          row + " 0", row + " []", row + " .", " ".join(words[:-1]), row.replace(" ", "\t"), "x" + row, words[0] + "s" + row[len(words[0]):]):
                if wrong == row:
                    continue
                self.assertIs(is_row(wrong), False, wrong)
                self.assert_no_row(wrong)
            for at in range(len(words)):
                for word in ("", "A", "abcdefghijklm", "01", "-0", "+1", "1.", "..", "%", "[", "]", "1000000000000000", "a1"):
                    wrong = " ".join(words[:at] + [word] + words[at + 1:])
                    self.assertIs(is_row(wrong), False, wrong)
                    self.assert_no_row(wrong)

    def test_kinds_of_things(self):
        for row in ("tell 5", "tell .", "tell a", "tell", "tell ", "go [knot 40 a []]", "go [put 0 p 5]", "go [drop 3]", "go []", "go [[bar ann [one 3]]]",
                    "go bar", "go .", "go [barr ann [one 3]]", "go [. ann [one 3]]", "go [0 bar]", "go bar ann [one 3]", "let .", "let a", "let [1]",
                    "move 0 .", "move . 0", "move 0", "move 0 1 2", "move a b", "ask . .", "ask . . ", "ask 5 . [[x] [[any x]]]", "ask . a [[x] [[any x]]]",
                    "ask [] . 5", "ask abcdefghi . 5", "keep . . 5", "keep 5 . 5", "keep abcdefghi . 5", "keep one abcdefghi 5", "keep one 5 5", "keep one .",
                    "kept", "kept .", "kept 5", "kept abcdefghi", "kept one two", "came .", "went .", "searches .", "forget .", "forget [one]",
                    "least . . [t]", "least . a [t]", "least . 0 t", "least . 0 .", "least . 0 [5]", "least . 0 [abcdefghi]", "least . 0 [[t]]", "least . 0 [.]",
                    "least 0 0 [t]", "least . 0 5", "parts . t", "parts . [t .]", "parts 5 [t]", "parts [t]", "web .", "web", "web . . .", "web 5 .", "web . a",
                    "web . [0]", "on on", "back 0", "placing .", "moments 0", "on.", "ok"):
            self.assertIs(is_row(row), False, row)
            self.assert_no_row(row)

    def test_too_deep(self):
        deep = "[" * 12 + "]" * 12
        self.assertIs(outcome(self.desk.say, f"ask . . {deep}")[0], NoQuestion)
        self.assertIs(outcome(self.desk.say, f"tell {deep}")[0], NoBatch)
        for row in (f"ask . . [{deep}]", f"tell [{deep}]", f"keep two . [{deep}]"):
            self.assert_no_row(row)

    def test_by_chance(self):
        chance = random.Random(360)
        counts = {True: 0, False: 0}
        for _ in range(6000):
            row = changed(chance.choice(ROWS), chance, " .-[]019abtZ\n~")
            desk = begun()[0] if is_row(row) else self.desk
            kind, told = outcome(desk.say, row)
            self.assertIs(kind is not NoRow, is_row(row), row)
            counts[is_row(row)] += 1
        self.assertEqual(self.all_told(self.desk)[0], ("told", "0 2"))
        self.assertGreater(min(counts.values()), 500, counts)

    def test_as_the_store_refuses(self):
        self.desk.say("tell [[put 0 p 5]]")
        self.desk.say("let 1")
        self.desk.say("move 3 1")
        for row, error, fields in (
                ("tell []", NoBatch, {"at": None, "why": "form"}), ("tell [5]", NoBatch, {"at": 0, "why": "form"}),
                ("tell [knot 40 a []]", NoBatch, {"at": 0, "why": "form"}), ("tell [[put 0 p 6] [drop 0]]", NoBatch, {"at": 1, "why": "tied"}),
                ("tell [[knot -1 a []]]", NoBatch, {"at": 0, "why": "form"}), ("go [bar]", NoBatch, {"at": 0, "why": "form"}),
                ("go [bar ann [one 1]]", NoBatch, {"at": 0, "why": "twice"}), ("go [free bob [one 1]]", NoBatch, {"at": 0, "why": "free"}),
                ("go [bar . [one 1]]", NoBatch, {"at": 0, "why": "form"}), ("let -1", NoMoment, {"asked": -1}), ("let 4", NoMoment, {"asked": 4}),
                ("move -1 0", NoPlace, {"asked": -1}), ("move 8 -1", NoPlace, {"asked": 8}), ("move 0 6", NoPlace, {"asked": 6}),
                ("move 0 -1", NoPlace, {"asked": -1}), ("move 0 0", Home, {"number": 0}), ("move 0 1", Moving, {"slot": 3}),
                ("ask . . 5", NoQuestion, {"at": None}), ("ask . . .", NoQuestion, {"at": None}), ("ask . . [[] [[any x] x]]", NoQuestion, {"at": 1}),
                (f"ask . -1 {QUESTION}", NoMoment, {"asked": -1}), (f"ask . 9 {QUESTION}", NoMoment, {"asked": 9}), (f"ask ann 0 {QUESTION}", Gone, {"begin": 1}),
                (f"keep one . {QUESTION}", Known, {"name": "one"}), ("keep two . []", NoQuestion, {"at": None}), ("kept two", NoName, {"name": "two"}),
                ("came two", NoName, {"name": "two"}), ("went two", NoName, {"name": "two"}), ("searches two", NoName, {"name": "two"}),
                ("forget two", NoName, {"name": "two"}), ("least . -1 [t]", NoKnot, {"asked": -1}), ("least ann 1 []", NoKnot, {"asked": 1}),
                ("web . 0", Gone, {"begin": 1}), ("web ann -1", NoMoment, {"asked": -1}), ("web . 999999999999999", NoMoment, {"asked": 999999999999999})):
            ahead = self.all_told(self.desk)
            self.assertEqual(outcome(self.desk.say, row), (error, fields), row)
            self.assertEqual(self.all_told(self.desk), ahead)
        self.desk.say("back")
        for row in ("on", "back"):
            self.assertEqual(outcome(self.desk.say, row), (NoMove, {}))

    def test_two_desks(self):
        other = Desk()
        self.assertEqual((other.say("moments"), self.desk.say("moments")), ("0 0", "0 2"))


if __name__ == "__main__":
    unittest.main()
