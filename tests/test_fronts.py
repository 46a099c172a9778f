"""Point 29: asking by mail."""

import copy
import random
import unittest

from tests.asking import rows_of, some_answered, some_bar, some_question, some_web
from tests.housing import Mail, left_web, rising, slots_at
from websplit.fronts import by_mail, mail_size
from websplit.houses import House
from websplit.plain import answer
from websplit.questions import need_question
from websplit.rights import seen
from websplit.webs import Web
from websplit.webtexts import read_web

# Slots 0, 1, 2, 3 have the knots 0, 8; 1, 9; 2; 3.
WEB = read_web("""knot 0 a p=1
knot 1 a p=2
knot 2 b
knot 3 b p=1
knot 8 a
knot 9 c
tie 1 t 0 1 5
tie 2 t 1 2 6
tie 3 t 2 3 7
tie 4 u 3 3 1
tie 5 t 8 9 1
tie 6 u 9 0 2""")
PLACING = (4, 1, 4, 1, 1, 1, 1, 1)


def houses_of(web, placing, more=()):
    return {house: House(web, slots_at(placing, house)) for house in list(more) + sorted(set(placing), reverse=True)}


class Letters(unittest.TestCase):
    """The mail, message by message: houses 1 and 4; 4 has 0, 2, 8, 1 has 1, 3, 9."""

    def mail(self, rows, bars=(), shown=()):
        """The messages without moment and bars."""
        question = (shown, rows)
        need_question(question)
        found, mail = by_mail(houses_of(WEB, PLACING), PLACING, question, bars)
        model = Mail(WEB, PLACING, bars)
        self.assertEqual(found, model.ask(question))
        self.assertEqual(mail, model.letters)
        self.assertEqual(mail_size(question) * 2, len(mail))
        self.assertEqual([letter[0] for letter in mail], [1, 4] * mail_size(question))
        self.assertEqual({(letter[1][1], letter[1][2]) for letter in mail} - {(0, rising(bars))}, set())
        return [(house, message[0], *message[3:]) for house, message, _ in mail]

    def test_knot_and_any(self):
        self.assertEqual(self.mail((("knot", "x", "a"),)), [(1, "knots", "a"), (4, "knots", "a")])
        self.assertEqual(self.mail((("any", "x"),)), [(1, "knots", None), (4, "knots", None)])
        self.assertEqual(self.mail((("knot", "x", "a"), ("any", "x"))), [(1, "knots", "a"), (4, "knots", "a")])
        self.assertEqual(self.mail((("knot", "x", "a"), ("knot", "x", "b"))),
                         [(1, "knots", "a"), (4, "knots", "a"), (1, "look", (1,)), (4, "look", (0, 8))])

    def test_what_is_found_so_far(self):
        rows = (("knot", "x", "a"), ("knot", "x", "b"), ("knot", "x", "a"), ("holds", "x", "p", "same", 1))
        self.assertEqual(self.mail(rows)[2:], [(1, "look", (1,)), (4, "look", (0, 8))] + [(1, "look", ()), (4, "look", ())] * 2)

    def test_holds_and_unlike(self):
        rows = (("knot", "x", "a"), ("holds", "x", "p", "more", 0), ("holds", "x", "p", "more", 1), ("unlike", "x", "x"),
                ("holds", "x", "p", "more", 1))
        self.assertEqual(self.mail(rows)[2:], [(1, "look", (1,)), (4, "look", (0, 8)), (1, "look", (1,)), (4, "look", (0,)),
                                               (1, "look", ()), (4, "look", ())])
        self.assertEqual(self.mail((("any", "x"), ("unlike", "x", "x"), ("any", "x"))), [(1, "knots", None), (4, "knots", None)])

    def test_tie(self):
        self.assertEqual(self.mail((("tie", "x", "t", "y"),)), [(1, "ties", "t"), (4, "ties", "t")])
        self.assertEqual(self.mail((("tie", "x", "u", "x"),)), [(1, "ties", "u"), (4, "ties", "u")])
        self.assertEqual(self.mail((("knot", "x", "a"), ("tie", "x", "t", "y")))[2:], [(1, "outs", (1,), "t"), (4, "outs", (0, 8), "t")])
        self.assertEqual(self.mail((("knot", "y", "b"), ("tie", "x", "t", "y")))[2:], [(1, "ins", (3,), "t"), (4, "ins", (2,), "t")])
        self.assertEqual(self.mail((("knot", "x", "b"), ("tie", "x", "u", "x")))[2:], [(1, "outs", (3,), "u"), (4, "outs", (2,), "u")])
        both = self.mail((("tie", "x", "t", "y"), ("tie", "y", "t", "x")))
        self.assertEqual(both[2:], [(1, "outs", (1, 3, 9), "t"), (4, "outs", (2,), "t")])

    def test_way_from_its_first_variable(self):
        self.assertEqual(self.mail((("knot", "x", "a"), ("way", "x", "t", "y", 3)))[2:], [
            (1, "outs", (1,), "t"), (4, "outs", (0, 8), "t"), (1, "outs", (1, 9), "t"), (4, "outs", (2,), "t"),
            (1, "outs", (3,), "t"), (4, "outs", (2,), "t")])

    def test_way_from_its_second_variable(self):
        self.assertEqual(self.mail((("knot", "y", "b"), ("way", "x", "t", "y", 4)))[2:], [
            (1, "ins", (3,), "t"), (4, "ins", (2,), "t"), (1, "ins", (1,), "t"), (4, "ins", (2,), "t"),
            (1, "ins", (1,), "t"), (4, "ins", (0,), "t"), (1, "ins", (), "t"), (4, "ins", (0,), "t")])

    def test_way_of_none_and_of_both(self):
        self.assertEqual(self.mail((("way", "x", "t", "y", 2),)), [
            (1, "knots", None), (4, "knots", None), (1, "outs", (1, 3, 9), "t"), (4, "outs", (0, 2, 8), "t"),
            (1, "outs", (1, 3, 9), "t"), (4, "outs", (2,), "t")])
        self.assertEqual(self.mail((("way", "x", "u", "x", 1),)), [
            (1, "knots", None), (4, "knots", None), (1, "outs", (1, 3, 9), "u"), (4, "outs", (0, 2, 8), "u")])
        self.assertEqual(self.mail((("tie", "x", "u", "y"), ("way", "y", "t", "x", 2)))[2:], [
            (1, "outs", (3,), "t"), (4, "outs", (0,), "t"), (1, "outs", (1,), "t"), (4, "outs", (), "t")])

    def test_loops_are_come_to_each_time(self):
        self.assertEqual(self.mail((("knot", "x", "b"), ("way", "x", "u", "y", 3)))[2:], [
            (1, "outs", (3,), "u"), (4, "outs", (2,), "u")] + [(1, "outs", (3,), "u"), (4, "outs", (), "u")] * 2)

    def test_no(self):
        self.assertEqual(self.mail((("knot", "x", "a"), ("no", (("tie", "x", "t", "y"), ("knot", "y", "b")))))[2:], [
            (1, "outs", (1,), "t"), (4, "outs", (0, 8), "t"), (1, "look", (1, 9)), (4, "look", (2,))])
        self.assertEqual(self.mail((("knot", "x", "a"), ("no", (("knot", "y", "b"), ("tie", "x", "t", "y")))))[2:], [
            (1, "outs", (1,), "t"), (4, "outs", (0, 8), "t"), (1, "look", (1, 9)), (4, "look", (2,))])
        self.assertEqual(self.mail((("knot", "x", "a"), ("no", (("holds", "x", "p", "same", 1),)), ("holds", "x", "p", "same", 2)))[2:], [
            (1, "look", (1,)), (4, "look", (0, 8)), (1, "look", (1,)), (4, "look", (8,))])

    def test_no_of_its_own_variables_goes_first(self):
        self.assertEqual(self.mail((("knot", "x", "a"), ("no", (("tie", "y", "t", "z"), ("knot", "y", "c"))))), [
            (1, "knots", "c"), (4, "knots", "c"), (1, "outs", (9,), "t"), (4, "outs", (), "t"), (1, "knots", "a"), (4, "knots", "a")])

    def test_no_behind_what_found_nothing(self):
        rows = (("knot", "x", "z"), ("no", (("tie", "x", "t", "y"), ("any", "y"), ("way", "y", "t", "w", 2))))
        self.assertEqual(self.mail(rows)[2:], [(1, "outs", (), "t"), (4, "outs", (), "t")] * 3)

    def test_where_nothing_is_found_all_is_asked_still(self):
        rows = (("knot", "x", "z"), ("tie", "x", "t", "y"), ("any", "z"), ("knot", "z", "a"), ("way", "z", "t", "w", 1))
        self.assertEqual(self.mail(rows), [
            (1, "knots", "z"), (4, "knots", "z"), (1, "outs", (), "t"), (4, "outs", (), "t"), (1, "knots", "a"), (4, "knots", "a"),
            (1, "outs", (), "t"), (4, "outs", (), "t")])

    def test_answers(self):
        found, mail = by_mail(houses_of(WEB, PLACING), PLACING, (("x", "y"), (("knot", "x", "a"), ("tie", "x", "t", "y"))), [("one", 9)])
        bars = (("one", 9),)
        self.assertEqual(found, [(0, 1), (1, 2)])
        self.assertEqual(mail, [
            (1, ("knots", 0, bars, "a"), (1,)), (4, ("knots", 0, bars, "a"), (0, 8)),
            (1, ("outs", 0, bars, (1,), "t"), ((2, 1, 2, 6),)), (4, ("outs", 0, bars, (0, 8), "t"), ((1, 0, 1, 5),))])
        self.assertEqual((type(mail), {type(letter) for letter in mail}, type(found)), (list, {tuple}, list))


class Size(unittest.TestCase):
    def assert_size(self, size, *rows):
        need_question(((), rows))
        self.assertEqual(mail_size(((), rows)), size)
        self.assertEqual(mail_size(question=((), rows)), size)

    def test_each_sort(self):
        self.assert_size(1, ("knot", "x", "a"))
        self.assert_size(1, ("any", "x"))
        self.assert_size(1, ("any", "x"), ("any", "x"), ("unlike", "x", "x"))
        self.assert_size(2, ("any", "x"), ("holds", "x", "p", "same", 1))
        self.assert_size(2, ("knot", "x", "a"), ("knot", "x", "b"))
        self.assert_size(1, ("tie", "x", "t", "y"))
        self.assert_size(2, ("tie", "x", "t", "y"), ("tie", "y", "t", "x"))
        for most in (1, 2, 3, 4):
            self.assert_size(1 + most, ("way", "x", "t", "y", most))
            self.assert_size(1 + most, ("knot", "x", "a"), ("way", "x", "t", "y", most))
            self.assert_size(1 + most, ("knot", "x", "a"), ("way", "y", "t", "x", most))
            self.assert_size(2 + most, ("any", "z"), ("no", (("way", "x", "t", "y", most),)))

    def test_no(self):
        self.assert_size(3, ("any", "x"), ("no", (("tie", "x", "t", "y"), ("knot", "y", "a"))))
        self.assert_size(1, ("no", (("any", "x"),)))
        self.assert_size(2, ("any", "x"), ("no", (("any", "x"), ("unlike", "x", "x"), ("knot", "x", "a"))))

    def test_whatever_the_web_the_bars_and_the_placing(self):
        chance = random.Random(290)
        for _ in range(150):
            question, sizes = some_question(chance), set()
            for _ in range(4):
                web, placing = some_web(chance, knots=8, ties=12), tuple(chance.choice((0, 3, 5)) for _ in range(8))
                bars = [some_bar(chance) for _ in range(chance.randint(0, 3))]
                mail = by_mail(houses_of(web, placing), placing, question, bars)[1]
                counts = {house: [letter[0] for letter in mail].count(house) for house in placing}
                sizes |= set(counts.values())
                self.assertEqual(sum(counts.values()), len(mail))
            self.assertEqual(sizes, {mail_size(question)})


class ByMail(unittest.TestCase):
    def test_beside_the_plain_search_and_a_second_front(self):
        chance = random.Random(29)
        full = barred = 0
        for _ in range(700):
            web = some_web(chance, knots=5, ties=9)
            placing = tuple(chance.choice(range(chance.randint(1, 6))) for _ in range(8))
            bars = [some_bar(chance) for _ in range(chance.choice((0, 0, 1, 2, 3)))]
            question = some_answered(chance, left_web(web, bars))
            ahead = copy.deepcopy((rows_of(web), question, bars))
            found, mail = by_mail(houses_of(web, placing), placing, question, bars)
            self.assertEqual(found, answer(seen(web, bars), question))
            model = Mail(web, placing, bars)
            self.assertEqual(found, model.ask(question))
            self.assertEqual(mail, model.letters, (rows_of(web), question, bars, placing))
            self.assertEqual((rows_of(web), question, bars), ahead)
            full += bool(found)
            barred += bool(found) and seen(web, bars) != web
        self.assertGreater(full, 300)
        self.assertGreater(barred, 50)

    def test_bars_in_any_order_and_twice(self):
        bars = [("one", 100), ("ties", "u"), ("kind", "c"), ("one", 9), ("one", 10), ("name", "p")]
        question = (("x", "y"), (("way", "x", "t", "y", 2), ("holds", "x", "p", "same", 1)))
        told = by_mail(houses_of(WEB, PLACING), PLACING, question, tuple(bars))
        self.assertEqual({letter[1][2] for letter in told[1]},
                         {(("kind", "c"), ("name", "p"), ("one", 100), ("one", 10), ("one", 9), ("ties", "u"))})
        chance = random.Random(291)
        for _ in range(20):
            mixed = bars + chance.sample(bars, chance.randint(0, 6))
            chance.shuffle(mixed)
            ahead = list(mixed)
            self.assertEqual(by_mail(houses_of(WEB, PLACING), PLACING, question, mixed), told)
            self.assertEqual(by_mail(houses_of(WEB, PLACING), PLACING, question, tuple(mixed)), told)
            self.assertEqual(mixed, ahead)

    def test_two_webs_alike_but_for_what_is_barred(self):
        chance = random.Random(292)
        unlike = 0
        for _ in range(300):
            web, bars = some_web(chance, knots=8, ties=14), [some_bar(chance) for _ in range(chance.randint(1, 3))]
            placing = tuple(chance.choice((0, 1, 2)) for _ in range(8))
            knots, ties = rows_of(seen(web, bars))
            hidden = [(500, "hid", {"p": 1}), (501, "hid", {})]
            more = [(900, "t", 500, 501, 1), (901, "t", 501, 501, 1)] + [(902 + at, "t", row[0], 500, 1) for at, row in enumerate(knots)]
            one, other = Web(knots, ties), Web(knots + hidden, ties + more)
            question = some_question(chance)
            told = [by_mail(houses_of(each, placing), placing, question, bars + [("kind", "hid")]) for each in (one, other)]
            self.assertEqual(told[0], told[1])
            self.assertEqual(told[0][0], answer(one, question))
            unlike += answer(one, question) != answer(other, question)
        self.assertGreater(unlike, 20)

    def test_no_answer_holds_what_is_barred(self):
        chance = random.Random(293)
        for _ in range(200):
            web, bars = some_web(chance, knots=8, ties=14), [some_bar(chance) for _ in range(chance.randint(1, 3))]
            placing = tuple(chance.choice((0, 1, 2)) for _ in range(8))
            left = seen(web, bars)
            for _, message, told in by_mail(houses_of(web, placing), placing, some_question(chance), bars)[1]:
                if message[0] == "knots":
                    self.assertLessEqual(set(told), set(left.knots()))
                elif message[0] == "look":
                    self.assertEqual([dict(row[2]) for row in told], [left.worths(row[0]) for row in told])
                else:
                    self.assertEqual([row[1:] for row in told], [left.tie(row[0])[1:] for row in told])

    def test_only_houses_that_have_a_slot_are_asked(self):
        class Silent:
            def answer(self, message):
                raise AssertionError("it has no slot")

        houses = {0: Silent(), **houses_of(WEB, PLACING), 5: Silent()}
        self.assertEqual(by_mail(houses, PLACING, (("x",), (("knot", "x", "b"),)), ())[0], [(2,), (3,)])
        self.assertEqual(sorted(houses), [0, 1, 4, 5])

    def test_what_answers_as_a_house_does(self):
        class Recorder:
            def __init__(self, house):
                self.house, self.messages = house, []

            def answer(self, message):
                self.messages.append(message)
                return self.house.answer(message[:1] + (0,) + message[2:])

        houses = {number: Recorder(house) for number, house in houses_of(WEB, PLACING).items()}
        question = (("x",), (("any", "x"), ("tie", "x", "t", "y")))
        found, mail = by_mail(houses=houses, placing=PLACING, question=question, bars=[("one", 1)], moment=17)
        self.assertEqual(found, [(2,), (8,)])
        for number in houses:
            self.assertEqual([message for house, message, _ in mail if house == number], houses[number].messages)
        self.assertEqual({message[1] for _, message, _ in mail}, {17})
        with self.assertRaises(TypeError):
            by_mail(houses, PLACING, question, (), 17)

    def test_what_is_told_is_the_askers_own(self):
        houses, question = houses_of(WEB, PLACING), (("x",), (("knot", "x", "a"),))
        found, mail = by_mail(houses, PLACING, question, ())
        ahead = (list(found), list(mail))
        found.clear()
        mail.clear()
        self.assertEqual(by_mail(houses, PLACING, question, ()), ahead)


if __name__ == "__main__":
    unittest.main()
