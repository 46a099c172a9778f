"""Which moments are there, and which are kept still."""

from websplit.errors import Gone, NoMoment
from websplit.things import is_between


def need_moment(moment, last):
    """Refuses what is no moment up to the last one, of anything."""
    if not is_between(moment, 0, last):
        raise NoMoment(moment)


def place_of(moment, first, last):
    """The place of a moment among those that are kept, of the last one where it is None; of anything."""
    if moment is None:
        return last - first
    need_moment(moment, last)
    if moment < first:
        raise Gone(first)
    return moment - first
