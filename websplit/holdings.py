"""What the front and the houses hold, and how an entry of the journal changes it."""

from websplit.bounds import SLOTS
from websplit.shelves import NO_GROWTH, Shelf


class Holdings:
    """The front's placing, moments, bars, move and kept questions; the houses' shelves, by (house, slot).

    A house holds shelves of its own slots, and one of a slot that was copied to it and isn't handed over yet.
    """

    def __init__(self):
        self.placed = ()
        self.begin = 0
        self.barred_then = []
        self.move_now = None
        self.questions = {}
        self.shelves = {}

    def own_shelf(self, slot):
        """The shelf of a slot at the house where it stands."""
        return self.shelves[(self.placed[slot], slot)]


def do_begin(held, told, notes):
    """Begins with a placing, and with moment 0."""
    held.placed = told[0]
    held.barred_then = [{}]
    for slot in range(SLOTS):
        held.shelves[(held.placed[slot], slot)] = Shelf()
        held.own_shelf(slot).grow(NO_GROWTH)


def barred_behind(barred, deeds):
    """All (asker, bar) behind deeds of bar and free; what was barred ahead of them stays as it is."""
    left = {key: True for key in barred}
    for deed in deeds:
        asker_and_bar = deed[1:]
        if deed[0] == "bar":
            left[asker_and_bar] = True
        else:
            del left[asker_and_bar]
    return left


def do_batch(held, told, notes):
    """Makes the next moment, at the front and at all houses."""
    held.barred_then.append(barred_behind(held.barred_then[-1], told[0]))
    for (house, slot), shelf in list(held.shelves.items()):
        growths = dict(notes.get(house, ()))
        shelf.grow(growths.get(slot, NO_GROWTH))


def do_let(held, told, notes):
    """Lets go of the moments ahead of one."""
    many = told[0] - held.begin
    held.begin = told[0]
    held.barred_then = held.barred_then[many:]
    for shelf in list(held.shelves.values()):
        shelf.shed(many)


def do_keep(held, told, notes):
    """Keeps a question by a name, for an asker."""
    name, question, asker = told
    held.questions[name] = (question, asker)


def do_forget(held, told, notes):
    """Forgets a kept question."""
    name = told[0]
    del held.questions[name]


def do_move(held, told, notes):
    """Begins to move a slot to a house."""
    slot, house = told
    held.move_now = (slot, house, "begun")


def do_copied(held, told, notes):
    """Copies the slot that moves."""
    slot, house = held.move_now[:2]
    shelf = Shelf()
    for growth in notes[house]:
        shelf.grow(growth)
    held.shelves[(house, slot)] = shelf
    held.move_now = (slot, house, "copied")


def do_moved(held, told, notes):
    """Hands over the slot that moves."""
    slot, house = held.move_now[:2]
    elder = (held.placed[slot], slot)
    del held.shelves[elder]
    held.placed = held.placed[:slot] + (house,) + held.placed[slot + 1:]
    held.move_now = None


def do_back(held, told, notes):
    """Takes the move back."""
    slot, house, word = held.move_now
    copy_key = (house, slot)
    if word == "copied":
        del held.shelves[copy_key]
    held.move_now = None


ENTRIES = {
    "begin": do_begin,
    "batch": do_batch,
    "let": do_let,
    "keep": do_keep,
    "forget": do_forget,
    "move": do_move,
    "copied": do_copied,
    "moved": do_moved,
    "back": do_back,
}


def follow(held, row, notes):
    """Changes what is held as an entry tells, the front's row and the houses' notes."""
    enact = ENTRIES[row[0]]
    enact(held, row[1:], notes)
