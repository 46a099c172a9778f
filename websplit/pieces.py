"""Pieces of a web, joined, and what changes one into another, written as a thing."""

from websplit.houses import worth_pairs
from websplit.webs import Web

# (knots gone, knots put, ties gone, ties put)
NO_CHANGE = ((), (), (), ())


def joined(pieces):
    """The web of all knots and ties of pieces of one web."""
    knots = {knot: (knot, piece.kind(knot), piece.worths(knot)) for piece in pieces for knot in piece.knots()}
    ties = {tie: (tie,) + piece.tie(tie) for piece in pieces for tie in piece.ties()}
    return Web(list(knots.values()), list(ties.values()))


def knot_things(piece):
    """(knot, kind, worths) of each knot, by its number."""
    return {knot: (knot, piece.kind(knot), worth_pairs(piece.worths(knot))) for knot in piece.knots()}


def tie_things(piece):
    """(tie, kind, from, to, weight) of each tie, by its number."""
    return {tie: (tie,) + piece.tie(tie) for tie in piece.ties()}


def change_between(ahead, behind):
    """What changes one piece into another, as a thing."""
    knots = rows_between(knot_things(ahead), knot_things(behind))
    return knots + rows_between(tie_things(ahead), tie_things(behind))


def rows_between(ahead, behind):
    """The numbers of the rows that are gone, and the rows that came or are otherwise."""
    gone = tuple([number for number in ahead if number not in behind])
    return gone, tuple([behind[number] for number in behind if ahead.get(number) != behind[number]])


def changed(piece, change):
    """The piece behind a change; the one ahead of it stays as it is."""
    # A piece never changes, so that moments may share it.
    if change == NO_CHANGE:
        return piece
    knots_gone, knots_put, ties_gone, ties_put = change
    knots = rows_behind(knot_things(piece), knots_gone, knots_put)
    ties = rows_behind(tie_things(piece), ties_gone, ties_put)
    return Web([(knot, kind, dict(pairs)) for knot, kind, pairs in knots], ties)


def rows_behind(rows, gone, put):
    """The rows that are left behind those that are gone and those that are put."""
    left = {number: rows[number] for number in rows if number not in gone}
    left.update({row[0]: row for row in put})
    return list(left.values())
