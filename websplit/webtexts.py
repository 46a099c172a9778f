"""Webs written in rows, and read."""

from websplit.bounds import MOST_KNOTS, MOST_NUMBER, MOST_TIES, MOST_WEIGHT, MOST_WORTH, MOST_WORTHS
from websplit.errors import NoText
from websplit.things import is_name, is_text, number_of, written
from websplit.webs import Web


def show_web(web):
    """The text of a web: a row for each knot, then one for each tie."""
    rows = [show_knot(web, knot) for knot in web.knots()] + [show_tie(web, tie) for tie in web.ties()]
    return "\n".join(rows)


def show_knot(web, knot):
    """The row of a knot."""
    worths = web.worths(knot)
    pairs = [f"{name}={written(worths[name])}" for name in sorted(worths)]
    return " ".join(["knot", written(knot), web.kind(knot)] + pairs)


def show_tie(web, tie):
    """The row of a tie."""
    return " ".join(["tie", written(tie)] + [written(part) for part in web.tie(tie)])


def read_web(text):
    """The web of a text; NoText of anything else."""
    if not isinstance(text, str):
        raise NoText(0)
    knots = {}
    ties = {}
    # The empty web has no row, but an empty text would split into one.
    rows = text.split("\n") if text else []
    # The rows of a web's text up to any row are a web's text, too: so each one is judged by those ahead of it alone.
    for at, row in enumerate(rows):
        words = row.split(" ")
        knot = read_knot(words, knots, ties)
        tie = read_tie(words, knots, ties)
        if knot is not None:
            knots[knot[0]] = knot
        elif tie is not None:
            ties[tie[0]] = tie
        else:
            raise NoText(at)
    return Web(list(knots.values()), list(ties.values()))


def read_knot(words, knots, ties):
    """The knot of a row behind rows of these knots and ties, or None where it can't be one."""
    if words[0] != "knot" or len(words) < 3 or ties or len(knots) == MOST_KNOTS:
        return None
    number = next_number(words[1], knots)
    worths = read_worths(words[3:])
    if number is None or not is_name(words[2]) or worths is None:
        return None
    return number, words[2], worths


def read_tie(words, knots, ties):
    """The tie of a row behind rows of these knots and ties, or None where it can't be one."""
    if words[0] != "tie" or len(words) != 6 or len(ties) == MOST_TIES:
        return None
    number = next_number(words[1], ties)
    start = number_of(words[3], 0, MOST_NUMBER)
    end = number_of(words[4], 0, MOST_NUMBER)
    weight = number_of(words[5], 1, MOST_WEIGHT)
    if number is None or not is_name(words[2]) or start not in knots or end not in knots or weight is None:
        return None
    return number, words[2], start, end, weight


def next_number(word, rows):
    """The number that a word writes where it is above those of all rows, else None."""
    return number_of(word, max(rows, default=-1) + 1, MOST_NUMBER)


def read_worths(words):
    """The worths that words write, at most six, their names rising, or None."""
    if len(words) > MOST_WORTHS:
        return None
    worths = {}
    last_name = ""
    for word in words:
        name, sign, rest = word.partition("=")
        worth = rest if is_text(rest) else number_of(rest, -MOST_WORTH, MOST_WORTH)
        if not is_name(name) or name <= last_name or worth is None:
            return None
        worths[name] = worth
        last_name = name
    return worths
