"""The web of all moments by itself."""

from websplit.deeds import State, after_batch
from websplit.moments import need_moment, place_of
from websplit.rights import bars_of
from websplit.webs import Web


def web_of(state):
    """The web of a state."""
    rows = state.knot_rows
    ties = state.tie_rows
    return Web([(knot,) + rows[knot] for knot in rows], [(tie,) + ties[tie] for tie in ties])


class Whole:
    """A web that batches change; each one makes a new moment."""

    def __init__(self):
        self.begin = 0
        self.states = [State()]

    def tell(self, batch):
        """Does a batch, and tells the moment that it makes."""
        self.states.append(after_batch(self.states[-1], batch))
        return self.last()

    def last(self):
        """The last moment."""
        return self.begin + len(self.states) - 1

    def first(self):
        """The first moment that is kept."""
        return self.begin

    def web(self, *, moment=None):
        """The web as of a moment."""
        return web_of(self.state_of(moment))

    def bars(self, asker, *, moment=None):
        """The bars of an asker as of a moment."""
        return bars_of(self.state_of(moment).barred, asker)

    def let_go(self, moment):
        """Lets go of the moments ahead of this one."""
        need_moment(moment, self.last())
        if moment > self.begin:
            self.states = self.states[moment - self.begin:]
            self.begin = moment

    def state_of(self, moment):
        """The state as of a moment that is kept, of the last one where it is None."""
        return self.states[place_of(moment, self.begin, self.last())]
