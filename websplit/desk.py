"""The desk: a store that is told and asked by rows."""

from websplit.bounds import MOST_THING, SLOTS
from websplit.disks import Disk
from websplit.errors import NoRow, NoText
from websplit.store import Store
from websplit.things import is_name, number_of, read_thing, written
from websplit.webtexts import show_web

HOUSES = 3


def read_name(word):
    """The name that a word is."""
    if not is_name(word):
        raise NoText(0)
    return word


def read_number(word):
    """The number that a word writes."""
    number = number_of(word, -MOST_THING, MOST_THING)
    if number is None:
        raise NoText(0)
    return number


def read_asker(word):
    """The name that a word is, or None, the owner."""
    return None if word == "." else read_name(word)


def read_moment(word):
    """The number that a word writes, or None, the last moment."""
    return None if word == "." else read_number(word)


def read_any(text):
    """The thing that a text writes."""
    return read_thing(text)


def read_tuple(text):
    """The tuple that a text writes."""
    thing = read_thing(text)
    if not isinstance(thing, tuple):
        raise NoText(0)
    return thing


def read_bar_deed(text):
    """The tuple, begun with bar or free, that a text writes."""
    deed = read_tuple(text)
    if deed[:1] not in (("bar",), ("free",)):
        raise NoText(0)
    return deed


def read_kinds(text):
    """The tuple of kinds that a text writes."""
    kinds = read_tuple(text)
    if not all([is_name(kind) for kind in kinds]):
        raise NoText(0)
    return kinds


def say_tell(store, batch):
    """Tells a batch."""
    return written(store.tell(batch))


def say_go(store, deed):
    """Tells a bar or free alone."""
    return written(store.tell((deed,)))


def say_let(store, moment):
    """Lets go of moments."""
    store.let_go(moment)
    return "ok"


def say_move(store, slot, house):
    """Begins to move a slot."""
    store.move(slot, house)
    return "ok"


def say_on(store):
    """Goes on with the move."""
    return store.move_on()


def say_back(store):
    """Takes the move back."""
    return written(store.move_back())


def say_ask(store, asker, moment, question):
    """Asks a question."""
    return written(tuple(store.ask(question, asker=asker, moment=moment)))


def say_keep(store, name, asker, question):
    """Keeps a question."""
    store.keep(name, question, asker=asker)
    return "ok"


def say_kept(store, name):
    """Tells a kept answer."""
    return written(tuple(store.kept(name)))


def say_came(store, name):
    """Tells what came to a kept answer."""
    return written(tuple(store.came(name)))


def say_went(store, name):
    """Tells what went out of a kept answer."""
    return written(tuple(store.went(name)))


def say_searches(store, name):
    """Tells how often an answer was searched."""
    return written(store.searches(name))


def say_forget(store, name):
    """Forgets a kept answer."""
    store.forget(name)
    return "ok"


def say_least(store, asker, knot, kinds):
    """Tells least weights."""
    reached = store.least(knot, kinds, asker=asker)
    return written(tuple([(far, reached[far][0]) for far in sorted(reached)]))


def say_parts(store, asker, kinds):
    """Tells the parts of the web."""
    found = store.parts(kinds, asker=asker)
    return written(tuple([(knot, found[knot]) for knot in sorted(found)]))


def say_web(store, asker, moment):
    """Tells the web as an asker sees it."""
    text = show_web(store.web(asker=asker, moment=moment))
    return text.replace("\n", " / ") if text else "."


def say_placing(store):
    """Tells the placing."""
    return written(store.placing())


def say_moments(store):
    """Tells the first kept moment and the last one."""
    return f"{store.first()} {store.last()}"


# What each row does, and how the words behind the first one are read: the last of them may have blanks in it.
ROWS = {
    "tell": (say_tell, (read_tuple,)),
    "go": (say_go, (read_bar_deed,)),
    "let": (say_let, (read_number,)),
    "move": (say_move, (read_number, read_number)),
    "on": (say_on, ()),
    "back": (say_back, ()),
    "ask": (say_ask, (read_asker, read_moment, read_any)),
    "keep": (say_keep, (read_name, read_asker, read_any)),
    "kept": (say_kept, (read_name,)),
    "came": (say_came, (read_name,)),
    "went": (say_went, (read_name,)),
    "searches": (say_searches, (read_name,)),
    "forget": (say_forget, (read_name,)),
    "least": (say_least, (read_asker, read_number, read_kinds)),
    "parts": (say_parts, (read_asker, read_kinds)),
    "web": (say_web, (read_asker, read_moment)),
    "placing": (say_placing, ()),
    "moments": (say_moments, ()),
}


def read_words(words, readers):
    """What is read of words; NoText where there are more or less of them."""
    if len(words) != len(readers):
        raise NoText(0)
    return [read(word) for read, word in zip(readers, words)]


class Desk:
    """A store of three houses, which answers rows with texts."""

    def __init__(self):
        self.store = Store(Disk(), placing=tuple([slot % HOUSES for slot in range(SLOTS)]))

    def say(self, row):
        """The answer to a row; NoRow of anything else."""
        if not isinstance(row, str):
            raise NoRow(row)
        word, blank, rest = row.partition(" ")
        if word not in ROWS:
            raise NoRow(row)
        do, readers = ROWS[word]
        words = rest.split(" ", len(readers) - 1) if blank else []
        try:
            told = read_words(words, readers)
        except NoText:
            raise NoRow(row) from None
        return do(self.store, *told)
