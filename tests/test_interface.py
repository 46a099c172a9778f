"""Point 2, and the interface: its names, arguments and defaults, and which methods stand in which class."""

import importlib
import inspect
import unittest

from websplit import errors

DEFS = """
things: is_thing(thing), is_name(thing), is_worth(thing), written(thing), read_thing(text)
webtexts: show_web(web), read_web(text)
differences: difference(one, other)
questions: need_question(thing), named(question)
plain: answer(web, question)
plans: plan(question), answer_by(web, question, order)
papers: showing(web, question, asked), shows(web, question, asked, paper)
barring: barring(web, question), bars_more(web, question, told, paper)
rights: is_bar(thing), seen(web, bars)
houses: slot_of(knot)
fronts: mail_size(question), by_mail(houses, placing, question, bars, *, moment=0)
spreading: least(web, knot, kinds), parts(web, kinds), is_least(web, knot, kinds, told)
"""
CLASSES = {
    "webs.Web(knots=(), ties=())": "knots(), ties(), outs(knot), ins(knot), kind(knot), worths(knot), tie(number)",
    "whole.Whole()": "tell(batch), last(), first(), web(*, moment=None), bars(asker, *, moment=None), let_go(moment)",
    "keeping.Keeper(whole)": "tell(batch), keep(name, question, *, asker=None), forget(name), names(), kept(name), came(name), went(name), "
                             "searches(name)",
    "houses.House(web, slots)": "answer(message)",
    "disks.Disk(*, rows=None, fall=None)": "write(place, row), rows(), steps(), is_up()",
    "store.Store(disk, *, placing=(0, 0, 0, 0, 0, 0, 0, 0))":
        "tell(batch), last(), first(), bars(asker, *, moment=None), let_go(moment), web(*, asker=None, moment=None), "
        "ask(question, *, asker=None, moment=None), mail(), showing(question, asked, *, asker=None, moment=None), "
        "barring(question, *, asker=None, moment=None), keep(name, question, *, asker=None), forget(name), names(), kept(name), came(name), "
        "went(name), searches(name), placing(), house(number), move(slot, house), move_on(), move_back(), moving(), "
        "run(step, *, asker=None, moment=None, most=100), crossed(), least(knot, kinds, *, asker=None, moment=None), "
        "parts(kinds, *, asker=None, moment=None), busy()",
    "desk.Desk()": "say(row)",
}


def signatures(text):
    """(name, signature) of each def that a text tells."""
    depth, begin = 0, 0
    for at, sign in enumerate(text + ","):
        depth += (sign == "(") - (sign == ")")
        if sign == "," and depth == 0:
            name, _, rest = text[begin:at].strip().partition("(")
            yield name, "(" + rest
            begin = at + 1


def module(name):
    return importlib.import_module("websplit." + name)


class Interface(unittest.TestCase):
    def test_defs(self):
        for row in DEFS.strip().split("\n"):
            file, _, rest = row.partition(": ")
            for name, told in signatures(rest):
                self.assertEqual(str(inspect.signature(getattr(module(file), name))), told, name)

    def test_classes(self):
        for made, methods in CLASSES.items():
            file, _, rest = made.partition(".")
            name, told = next(signatures(rest))
            found = getattr(module(file), name)
            self.assertEqual(str(inspect.signature(found)), told, name)
            for method, told in signatures(methods):
                self.assertIn(method, vars(found), f"{name} has it itself")
                without_self = "(self" + (", " if told != "()" else "") + told[1:]
                self.assertEqual(str(inspect.signature(vars(found)[method])), without_self, f"{name}.{method}")

    def test_equality_and_length_stand_in_their_classes(self):
        self.assertLessEqual({"__eq__", "__len__"}, set(vars(module("webs").Web)))
        self.assertIn("__eq__", vars(module("store").Store))

    def test_refusals_are_made_of_their_fields(self):
        for name in ("NoText NoBatch NoQuestion BadName NoRow NoKnot NoTie NoName Known NoMoment NoPlace Gone NoTuple Fell Busy Moving "
                     "NoMove NoPlan Home TooLong").split():
            self.assertTrue(issubclass(getattr(errors, name), Exception))


if __name__ == "__main__":
    unittest.main()
