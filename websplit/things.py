"""Things, names and worths: what they are, how they are written and read."""

from websplit.bounds import MOST_FIGURES, MOST_NAME_LETTERS, MOST_NUMBER, MOST_TEXT_LETTERS
from websplit.bounds import MOST_THING, MOST_WITHIN, MOST_WORTH
from websplit.errors import NoText


def is_whole(thing):
    """Whether it is a whole number, of anything."""
    # Truths are ints to Python, but no whole numbers here.
    return isinstance(thing, int) and not isinstance(thing, bool)


def is_between(thing, low, high):
    """Whether it is a whole number from low to high, of anything."""
    return is_whole(thing) and low <= thing <= high


def is_number(thing):
    """Whether a knot or a tie may have this number, of anything."""
    return is_between(thing, 0, MOST_NUMBER)


def is_letters(thing, most):
    """Whether it is a text of one to most small letters."""
    if not isinstance(thing, str) or not 1 <= len(thing) <= most:
        return False
    # islower would take letters beyond a to z, too.
    return all(["a" <= sign <= "z" for sign in thing])


def is_text(thing):
    """Whether it is such a text as things and worths are."""
    return is_letters(thing, MOST_TEXT_LETTERS)


def is_name(thing):
    """Whether it is a name, of anything."""
    return is_letters(thing, MOST_NAME_LETTERS)


def is_worth(thing):
    """Whether it is a worth, of anything."""
    return is_text(thing) or is_between(thing, -MOST_WORTH, MOST_WORTH)


def is_thing(thing):
    """Whether it is a thing, of anything."""
    return is_thing_within(thing, MOST_WITHIN)


def is_thing_within(thing, most):
    """Whether it is a thing of at most so many tuples within one another."""
    if isinstance(thing, tuple):
        return most > 0 and all([is_thing_within(part, most - 1) for part in thing])
    return thing is None or is_text(thing) or is_between(thing, -MOST_THING, MOST_THING)


def written(thing):
    """The text that writes a thing."""
    if thing is None:
        return "."
    if isinstance(thing, tuple):
        return "[" + " ".join([written(part) for part in thing]) + "]"
    return str(thing)


def read_thing(text):
    """The thing that a text writes; NoText of anything else."""
    if not isinstance(text, str):
        raise NoText(0)
    thing, end = read_from(text, 0, MOST_WITHIN)
    if end < len(text):
        raise NoText(0)
    return thing


def read_from(text, at, most):
    """The thing that begins at a place, of at most so many tuples within one another, and the place behind it."""
    if text[at:at + 1] == "[":
        # The bound also keeps a long row of brackets from going too deep for Python.
        if most == 0:
            raise NoText(0)
        return read_tuple(text, at + 1, most - 1)
    end = word_end(text, at)
    return read_word(text[at:end]), end


def read_tuple(text, at, most):
    """The tuple whose first thing begins at a place, or which ends there, and the place behind it."""
    things = []
    while text[at:at + 1] != "]":
        if things:
            if text[at:at + 1] != " ":
                raise NoText(0)
            at += 1
        thing, at = read_from(text, at, most)
        things.append(thing)
    return tuple(things), at + 1


def word_end(text, at):
    """The place behind the word that begins at a place."""
    while at < len(text) and text[at] not in " []":
        at += 1
    return at


def read_word(word):
    """The thing without brackets that a word writes."""
    if word == ".":
        return None
    if is_text(word):
        return word
    number = number_of(word, -MOST_THING, MOST_THING)
    if number is None:
        raise NoText(0)
    return number


def number_of(word, low, high):
    """The whole number from low to high that a word writes, or None."""
    figures = word.removeprefix("-")
    # int would fail of very many figures, and would read those of other scripts.
    if not 1 <= len(figures) <= MOST_FIGURES or not all(["0" <= sign <= "9" for sign in figures]):
        return None
    number = int(word)
    # Noughts ahead and -0 are read by Python, but not written.
    if str(number) != word or not low <= number <= high:
        return None
    return number
