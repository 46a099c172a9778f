"""Kept answers, which follow the web."""

from websplit.differences import difference
from websplit.errors import BadName, Known, NoName
from websplit.plain import answer
from websplit.questions import named, need_question
from websplit.rights import need_asker, seen_by
from websplit.things import is_name


def is_touched(question, ahead, behind):
    """Whether two webs are otherwise in what a question names."""
    kinds, every, names, tie_kinds = named(question)
    knots, worths, ties = difference(ahead, behind)
    if every and knots:
        return True
    if any([name in names for knot, name in worths]):
        return True
    for web in (ahead, behind):
        if any([web.kind(knot) in kinds for knot in web.knots() if knot in knots]):
            return True
        if any([web.tie(tie)[0] in tie_kinds for tie in web.ties() if tie in ties]):
            return True
    return False


def lines_without(lines, others):
    """The lines that are none of the others."""
    known = {line: True for line in others}
    return [line for line in lines if line not in known]


class Entry:
    """A question that is kept for an asker, its answer, and what became of it."""

    def __init__(self, question, asker, web):
        self.question = question
        self.asker = asker
        self.found = answer(web, question)
        self.new_lines = []
        self.old_lines = []
        self.times = 1

    def follow(self, ahead, behind):
        """Goes on from the web that was seen ahead of a batch to the one behind it."""
        found = self.found
        if is_touched(self.question, ahead, behind):
            found = answer(behind, self.question)
            self.times += 1
        self.new_lines = lines_without(found, self.found)
        self.old_lines = lines_without(self.found, found)
        self.found = found


class Keeper:
    """Kept answers on a whole."""

    def __init__(self, whole):
        self.whole = whole
        self.entries = {}

    def tell(self, batch):
        """Tells a batch to the whole, and tells the moment that it makes."""
        ahead = self.seen_webs()
        moment = self.whole.tell(batch)
        behind = self.seen_webs()
        for entry in list(self.entries.values()):
            entry.follow(ahead[entry.asker], behind[entry.asker])
        return moment

    def keep(self, name, question, *, asker=None):
        """Keeps a question by a name, for an asker."""
        self.need_new(name, question, asker)
        self.entries[name] = Entry(question, asker, seen_by(self.whole, asker, None))

    def forget(self, name):
        """Forgets what is kept by a name."""
        self.need_name(name)
        del self.entries[name]

    def names(self):
        """The names by which questions are kept, rising."""
        return sorted(self.entries)

    def kept(self, name):
        """The answer that is kept by a name."""
        self.need_name(name)
        return list(self.entries[name].found)

    def came(self, name):
        """What came to an answer by the last batch."""
        self.need_name(name)
        return list(self.entries[name].new_lines)

    def went(self, name):
        """What went out of an answer by the last batch."""
        self.need_name(name)
        return list(self.entries[name].old_lines)

    def searches(self, name):
        """How often an answer was searched."""
        self.need_name(name)
        return self.entries[name].times

    def need_new(self, name, question, asker):
        """Refuses what can't be kept, of anything."""
        if not is_name(name):
            raise BadName(name)
        if name in self.entries:
            raise Known(name)
        need_question(question)
        need_asker(asker)

    def need_name(self, name):
        """Refuses what is no name by which a question is kept, of anything."""
        # What is no name may have no place in a dict.
        if not is_name(name) or name not in self.entries:
            raise NoName(name)

    def seen_webs(self):
        """The web that is seen at the last moment, by each asker for whom a question is kept."""
        askers = {entry.asker: True for entry in self.entries.values()}
        return {asker: seen_by(self.whole, asker, None) for asker in askers}
