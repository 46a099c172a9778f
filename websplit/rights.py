"""Bars, and the part of a web that they leave to be seen."""

from websplit.errors import BadName
from websplit.things import is_name, is_number, is_worth, written
from websplit.webs import Web


def is_bar(thing):
    """Whether it is a bar, of anything."""
    if not isinstance(thing, tuple) or len(thing) not in (2, 3):
        return False
    if len(thing) == 3:
        return thing[0] == "holding" and is_name(thing[1]) and is_worth(thing[2])
    if thing[0] == "one":
        return is_number(thing[1])
    return thing[0] in ("kind", "ties", "name") and is_name(thing[1])


def need_asker(thing):
    """Refuses what is neither a name nor None, the owner; of anything."""
    if thing is not None and not is_name(thing):
        raise BadName(thing)


def bars_of(barred, asker):
    """The bars of an asker among all (asker, bar), rising by their writings."""
    return tuple(sorted([bar for name, bar in barred if name == asker], key=written))


def seen(web, bars):
    """The web that is left where all that these bars name is taken out."""
    knots = [knot for knot in web.knots() if not is_barred(web, knot, bars)]
    names = barred_by(bars, "name")
    kinds = barred_by(bars, "ties")
    knot_rows = [(knot, web.kind(knot), worths_left(web.worths(knot), names)) for knot in knots]
    ties = [tie for tie in web.ties() if is_tie_left(web.tie(tie), knots, kinds)]
    return Web(knot_rows, [(tie,) + web.tie(tie) for tie in ties])


def seen_by(whole, asker, moment):
    """What an asker sees of the web of a whole as of a moment, of the last one where it is None."""
    bars = whole.bars(asker, moment=moment) + whole.bars(asker)
    return seen(whole.web(moment=moment), bars)


def barred_by(bars, word):
    """What the bars of this sort name."""
    return [bar[1] for bar in bars if bar[0] == word]


def is_barred(web, knot, bars):
    """Whether one of the bars names a knot."""
    # A worth bars its knot whether or not its own name is barred, so all worths are looked at.
    worths = web.worths(knot)
    holding = [bar for bar in bars if bar[0] == "holding"]
    if any([bar[1] in worths and worths[bar[1]] == bar[2] for bar in holding]):
        return True
    return web.kind(knot) in barred_by(bars, "kind") or knot in barred_by(bars, "one")


def worths_left(worths, names):
    """The worths whose names are none of these."""
    return {name: worths[name] for name in worths if name not in names}


def is_tie_left(tie, knots, kinds):
    """Whether a tie goes between these knots, and its kind is none of these."""
    kind, start, end = tie[:3]
    return kind not in kinds and start in knots and end in knots
