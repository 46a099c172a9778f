"""A whole that is split over houses, on a disk."""

from websplit.bounds import MOST_HOUSES, SLOTS
from websplit.deeds import State, after_batch
from websplit.errors import Home, Moving, NoMove, NoPlace
from websplit.holdings import Holdings, follow
from websplit.houses import piece_of, slot_of
from websplit.journals import Journal
from websplit.moments import need_moment, place_of
from websplit.pieces import change_between, joined
from websplit.rights import bars_of
from websplit.shelves import NO_GROWTH, MomentHouse
from websplit.things import is_between, is_whole
from websplit.whole import web_of


def bar_deeds(batch):
    """The deeds of a batch that the front is told: it knows the bars."""
    return tuple([deed for deed in batch if deed[0] in ("bar", "free")])


def growth_of(slot, ahead, batch, web):
    """What a batch that leads to a web brings to a slot whose piece ahead of it is told."""
    knots = [deed[1] for deed in batch if deed[0] == "knot" and slot_of(deed[1]) == slot]
    # A number that was had within the batch alone is taken, too; a tie's is known where the tie begins.
    ties = [deed[1] for deed in batch if deed[0] == "tie" and slot_of(deed[3]) == slot]
    return tuple(knots), tuple(ties), change_between(ahead, piece_of(web, (slot,)))


class SplitWhole:
    """A web of all moments, which no house knows whole; it is told and asked as a Whole is.

    Each deed is written first, and then done as it was written: so what the rows of its disk tell is what it holds.
    """

    def __init__(self, disk, placing):
        self.journal = Journal(disk)
        self.held = Holdings()
        entries = self.journal.finished()
        for row, notes in entries:
            follow(self.held, row, notes)
        if not entries:
            self.enact(("begin", tuple(placing)), {})

    def enact(self, row, notes):
        """Does what the front's row and the houses' notes tell."""
        self.journal.enter(row, notes)
        follow(self.held, row, notes)

    def tell(self, batch):
        """Does a batch at all houses, and tells the moment that it makes."""
        web = web_of(after_batch(self.gathered(), batch))
        notes = {}
        for (house, slot), shelf in list(self.held.shelves.items()):
            growth = growth_of(slot, shelf.newest(), batch, web)
            if growth != NO_GROWTH:
                notes[house] = notes.get(house, ()) + ((slot, growth),)
        self.enact(("batch", bar_deeds(batch)), notes)
        return self.last()

    def gathered(self):
        """The state of the last moment, out of what the houses and the front hold."""
        web = self.web()
        state = State()
        state.knot_rows = {knot: (web.kind(knot), web.worths(knot)) for knot in web.knots()}
        state.tie_rows = {tie: web.tie(tie) for tie in web.ties()}
        for slot in range(SLOTS):
            state.knots_had.update(self.held.own_shelf(slot).knots_had)
            state.ties_had.update(self.held.own_shelf(slot).ties_had)
        state.barred = {key: True for key in self.held.barred_then[-1]}
        return state

    def last(self):
        """The last moment."""
        return self.held.begin + len(self.held.barred_then) - 1

    def first(self):
        """The first moment that is kept."""
        return self.held.begin

    def place(self, moment):
        """The place of a moment among those that are kept."""
        return place_of(moment, self.first(), self.last())

    def web(self, *, moment=None):
        """The web as of a moment."""
        at = self.place(moment)
        return joined([self.held.own_shelf(slot).pieces[at] for slot in range(SLOTS)])

    def bars(self, asker, *, moment=None):
        """The bars of an asker as of a moment."""
        return bars_of(self.held.barred_then[self.place(moment)], asker)

    def let_go(self, moment):
        """Lets go of the moments ahead of this one."""
        need_moment(moment, self.last())
        if moment > self.first():
            self.enact(("let", moment), {})

    def history(self):
        """All that is told of the kept moments: the first one, and the web and the bars of each."""
        webs = [self.web(moment=moment) for moment in range(self.first(), self.last() + 1)]
        return self.first(), webs, list(self.held.barred_then)

    def note_kept(self, name, question, asker):
        """Notes that a question is kept by a name."""
        self.enact(("keep", name, question, asker), {})

    def note_forgotten(self, name):
        """Notes that a kept question is forgotten."""
        self.enact(("forget", name), {})

    def kept_questions(self):
        """(name, question, asker) of all that is kept."""
        return [(name,) + self.held.questions[name] for name in self.held.questions]

    def placing(self):
        """At which house each slot stands."""
        return self.held.placed

    def house(self, number):
        """What answers messages as the house of this number does now."""
        # Truths are equal to numbers, but no houses.
        if not is_whole(number) or number not in self.held.placed:
            raise NoPlace(number)
        slots = [slot for slot in range(SLOTS) if self.held.placed[slot] == number]
        return MomentHouse({slot: self.held.own_shelf(slot) for slot in slots}, self.first())

    def move(self, slot, house):
        """Begins to move a slot to a house."""
        if not is_between(slot, 0, SLOTS - 1):
            raise NoPlace(slot)
        if not is_between(house, 0, MOST_HOUSES - 1):
            raise NoPlace(house)
        if self.held.placed[slot] == house:
            raise Home(house)
        if self.held.move_now is not None:
            raise Moving(self.held.move_now[0])
        self.enact(("move", slot, house), {})

    def moving(self):
        """The move that goes on, (slot, house, word), or None."""
        return self.held.move_now

    def need_move(self):
        """Refuses where no move goes on."""
        if self.held.move_now is None:
            raise NoMove()

    def move_on(self):
        """Copies the slot that moves, or hands it over; tells what is done."""
        self.need_move()
        slot, house, word = self.held.move_now
        if word == "begun":
            self.enact(("copied",), {house: self.held.own_shelf(slot).growths()})
            return "copied"
        self.enact(("moved",), {})
        return "moved"

    def move_back(self):
        """Takes the move back, and tells its slot."""
        self.need_move()
        slot = self.held.move_now[0]
        self.enact(("back",), {})
        return slot
