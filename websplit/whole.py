"""The web of all moments by itself."""

from websplit.deeds import State, after_batch
from websplit.errors import Gone, NoMoment
from websplit.things import is_between, written
from websplit.webs import Web


def web_of(state):
    """The web of a state."""
    rows = state.knot_rows
    ties = state.tie_rows
    return Web([(knot,) + rows[knot] for knot in rows], [(tie,) + ties[tie] for tie in ties])


def bars_of(state, asker):
    """The bars of an asker, rising by their writings."""
    return tuple(sorted([bar for name, bar in state.barred if name == asker], key=written))


class Whole:
    """A web that batches change; each one makes a new moment."""

    def __init__(self):
        self.begin = 0
        self.states = [State()]

    def tell(self, batch):
        """Does a batch, and tells the moment that it makes."""
        self.states.append(after_batch(self.states[-1], batch))
        return self.last()

    def last(self):
        """The last moment."""
        return self.begin + len(self.states) - 1

    def first(self):
        """The first moment that is kept."""
        return self.begin

    def web(self, *, moment=None):
        """The web as of a moment."""
        return web_of(self.state_of(moment))

    def bars(self, asker, *, moment=None):
        """The bars of an asker as of a moment."""
        return bars_of(self.state_of(moment), asker)

    def let_go(self, moment):
        """Lets go of the moments ahead of this one."""
        self.need_moment(moment)
        if moment > self.begin:
            self.states = self.states[moment - self.begin:]
            self.begin = moment

    def need_moment(self, moment):
        """Refuses what is no moment up to the last one."""
        if not is_between(moment, 0, self.last()):
            raise NoMoment(moment)

    def state_of(self, moment):
        """The state as of a moment that is kept, of the last one where it is None."""
        if moment is None:
            return self.states[-1]
        self.need_moment(moment)
        if moment < self.begin:
            raise Gone(self.begin)
        return self.states[moment - self.begin]
