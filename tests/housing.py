"""Second houses, and a second front: which mail a question makes, by all knots for all variables."""

from tests.asking import Second, stands, told_plan
from tests.test_rights import left
from websplit.things import written


def slots_at(placing, house):
    return [slot for slot in range(8) if placing[slot] == house]


def rising(bars):
    """Bars as they stand in a message."""
    return tuple(sorted(set(bars), key=written))


def reply(web, slots, message):
    """What a house of these slots of a web answers."""
    knots, ties = left(web, message[2])
    kinds = {row[0]: row[1] for row in knots if row[0] % 8 in slots}
    asked, kind = (message[3], message[-1]) if message[0] in ("outs", "ins") else (kinds, message[-1])
    if message[0] == "knots":
        return tuple(sorted(knot for knot in kinds if kind is None or kinds[knot] == kind))
    if message[0] == "look":
        return tuple((row[0], row[1], tuple(sorted(row[2].items()))) for row in sorted(knots, key=lambda row: row[0])
                     if row[0] in kinds and row[0] in message[3])
    place = 3 if message[0] == "ins" else 2
    return tuple(sorted((row[0],) + row[2:] for row in ties if row[1] == kind and row[place] in kinds and row[place] in asked))


class Mail:
    """The mail that point 29 tells of a question, word by word."""

    def __init__(self, web, placing, bars, moment=0):
        self.web, self.placing, self.bars, self.moment = web, placing, rising(bars), moment
        self.second = Second(left_web(web, bars))
        self.letters = []

    def send(self, word, knots, *rest):
        for house in sorted(set(self.placing)):
            own = () if knots is None else (tuple(knot for knot in sorted(set(knots)) if self.placing[knot % 8] == house),)
            message = (word, self.moment, self.bars, *own, *rest)
            self.letters.append((house, message, reply(self.web, slots_at(self.placing, house), message)))

    def ask(self, question):
        found = self.go_along(question[1], [{}], set())
        return sorted({tuple(told[name] for name in question[0]) for told in found})

    def go_along(self, rows, found, bound):
        """What is found along the plan of the rows, beginning with what was found."""
        bound = set(bound)
        for at in told_plan(rows, bound):
            row = rows[at]
            self.send_row(row, found, bound)
            if row[0] != "no":
                fresh = sorted(stands(row) - bound)
                found = [{**told, **more} for told in found for more in self.second.tellings(fresh)]
                bound |= stands(row)
            found = [told for told in found if self.second.holds(row, told)]
        return found

    def send_row(self, row, found, bound):
        def knots(name):
            return {told[name] for told in found}

        if row[0] == "no":
            self.go_along(row[1], found, bound)
        elif row[0] in ("knot", "any") and row[1] not in bound:
            self.send("knots", None, row[2] if row[0] == "knot" else None)
        elif row[0] in ("knot", "holds"):
            self.send("look", knots(row[1]))
        elif row[0] == "tie":
            if row[1] in bound:
                self.send("outs", knots(row[1]), row[2])
            elif row[3] in bound:
                self.send("ins", knots(row[3]), row[2])
            else:
                self.send("ties", None, row[2])
        elif row[0] == "way":
            self.send_way(row, knots, bound)

    def send_way(self, row, knots, bound):
        word, near, far = ("ins", 2, 1) if row[1] not in bound and row[3] in bound else ("outs", 1, 2)
        if row[1] in bound or row[3] in bound:
            come_to = knots(row[1] if row[1] in bound else row[3])
        else:
            self.send("knots", None, None)
            come_to = set(self.second.knots)
        for _ in range(row[4]):
            self.send(word, come_to, row[2])
            come_to = {tie[far] for tie in self.second.ties.values() if tie[0] == row[2] and tie[near] in come_to}


def left_web(web, bars):
    return type(web)(*left(web, bars))
