"""The store: all of it in one, on a disk."""

from websplit.barring import barring
from websplit.bounds import MOST_ROUNDS
from websplit.errors import Busy, Fell
from websplit.fronts import by_mail
from websplit.keeping import Keeper
from websplit.papers import showing
from websplit.questions import need_question
from websplit.rights import need_asker, seen_by
from websplit.rounds import by_rounds
from websplit.splits import SplitWhole
from websplit.spreading import least, parts


class Store:
    """One web over houses, for askers who may see parts of it."""

    def __init__(self, disk, *, placing=(0, 0, 0, 0, 0, 0, 0, 0)):
        self.disk = disk
        self.is_running = False
        self.need_ready()
        self.whole = SplitWhole(disk, placing)
        self.keeper = Keeper(self.whole)
        for name, question, asker in self.whole.kept_questions():
            self.keeper.keep(name, question, asker=asker)
        self.letters = []
        self.crossings = 0

    def __eq__(self, other):
        return isinstance(other, Store) and self.whole.history() == other.whole.history()

    def need_ready(self):
        """Refuses where a run goes on, then where the disk has fallen."""
        if self.is_running:
            raise Busy()
        # A disk falls at the step that would be next, and writes nothing from there on.
        if not self.disk.is_up():
            raise Fell(self.disk.steps())

    def seen_web(self, asker, moment):
        """What an asker sees of a moment, asked by anything."""
        need_asker(asker)
        return seen_by(self.whole, asker, moment)

    def tell(self, batch):
        """Does a batch, and tells the moment that it makes."""
        self.need_ready()
        return self.keeper.tell(batch)

    def last(self):
        """The last moment."""
        self.need_ready()
        return self.whole.last()

    def first(self):
        """The first moment that is kept."""
        self.need_ready()
        return self.whole.first()

    def bars(self, asker, *, moment=None):
        """The bars of an asker as of a moment."""
        self.need_ready()
        need_asker(asker)
        return self.whole.bars(asker, moment=moment)

    def let_go(self, moment):
        """Lets go of the moments ahead of this one."""
        self.need_ready()
        self.whole.let_go(moment)

    def web(self, *, asker=None, moment=None):
        """The web as of a moment, as an asker sees it."""
        self.need_ready()
        return self.seen_web(asker, moment)

    def ask(self, question, *, asker=None, moment=None):
        """The answer to a question, asked by mail."""
        self.need_ready()
        need_question(question)
        need_asker(asker)
        bars = self.whole.bars(asker, moment=moment) + self.whole.bars(asker)
        asked_moment = self.whole.last() if moment is None else moment
        placing = self.whole.placing()
        houses = {number: self.whole.house(number) for number in sorted(set(placing))}
        found, self.letters = by_mail(houses, placing, question, bars, moment=asked_moment)
        return found

    def mail(self):
        """The mail of the last question that was asked and answered."""
        self.need_ready()
        return list(self.letters)

    def showing(self, question, asked, *, asker=None, moment=None):
        """A paper that shows a tuple of the answer."""
        self.need_ready()
        need_question(question)
        return showing(self.seen_web(asker, moment), question, asked)

    def barring(self, question, *, asker=None, moment=None):
        """A paper that nothing but the answer is the answer."""
        self.need_ready()
        need_question(question)
        return barring(self.seen_web(asker, moment), question)

    def keep(self, name, question, *, asker=None):
        """Keeps a question by a name, for an asker."""
        self.need_ready()
        self.keeper.need_new(name, question, asker)
        self.whole.note_kept(name, question, asker)
        self.keeper.keep(name, question, asker=asker)

    def forget(self, name):
        """Forgets what is kept by a name."""
        self.need_ready()
        self.keeper.need_name(name)
        self.whole.note_forgotten(name)
        self.keeper.forget(name)

    def names(self):
        """The names by which questions are kept, rising."""
        self.need_ready()
        return self.keeper.names()

    def kept(self, name):
        """The answer that is kept by a name."""
        self.need_ready()
        return self.keeper.kept(name)

    def came(self, name):
        """What came to an answer by the last batch."""
        self.need_ready()
        return self.keeper.came(name)

    def went(self, name):
        """What went out of an answer by the last batch."""
        self.need_ready()
        return self.keeper.went(name)

    def searches(self, name):
        """How often an answer was searched."""
        self.need_ready()
        return self.keeper.searches(name)

    def placing(self):
        """At which house each slot stands."""
        self.need_ready()
        return self.whole.placing()

    def house(self, number):
        """What answers messages as the house of this number does now."""
        self.need_ready()
        return self.whole.house(number)

    def move(self, slot, house):
        """Begins to move a slot to a house."""
        self.need_ready()
        self.whole.move(slot, house)

    def move_on(self):
        """Copies the slot that moves, or hands it over; tells what is done."""
        self.need_ready()
        return self.whole.move_on()

    def move_back(self):
        """Takes the move back, and tells its slot."""
        self.need_ready()
        return self.whole.move_back()

    def moving(self):
        """The move that goes on, (slot, house, word), or None."""
        self.need_ready()
        return self.whole.moving()

    def run(self, step, *, asker=None, moment=None, most=MOST_ROUNDS):
        """What the knots that an asker sees hold behind a run by rounds."""
        self.need_ready()
        web = self.seen_web(asker, moment)
        self.is_running = True
        try:
            held, crossings = by_rounds(web, self.whole.placing(), step, most)
        finally:
            self.is_running = False
        self.crossings = crossings
        return held

    def crossed(self):
        """How many things went from house to house in the last run that came to its end."""
        self.need_ready()
        return self.crossings

    def least(self, knot, kinds, *, asker=None, moment=None):
        """Least weights from a knot along ties of these kinds."""
        self.need_ready()
        return least(self.seen_web(asker, moment), knot, kinds)

    def parts(self, kinds, *, asker=None, moment=None):
        """The parts of the web along ties of these kinds."""
        self.need_ready()
        return parts(self.seen_web(asker, moment), kinds)

    def busy(self):
        """Whether a run goes on."""
        return self.is_running
