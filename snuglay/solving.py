"""The shortest laying of a job, with the proofs that none is shorter."""

from snuglay.pressing import short_laying
from snuglay.search import Search
from snuglay.turning import extent_of, turned_parts


def is_narrow(width, piece, turn):
    """Whether the piece is as narrow as the sheet in this turn."""
    _, _, low, high = extent_of(turned_parts(piece[1], turn))
    return high - low <= width


def narrow_turns(width, piece):
    """The turns of the piece in which it is as narrow as the sheet."""
    return [turn for turn in piece[2] if is_narrow(width, piece, turn)]


def too_wide(width, pieces):
    """The number of the first piece that is in no turn as narrow as the sheet; None if there is none."""
    for at, piece in enumerate(pieces):
        if not narrow_turns(width, piece):
            return at
    return None


def choices(width, pieces):
    """All tuples of turns, one for each piece, in which the pieces are as narrow as the sheet."""
    found = [()]
    for piece in pieces:
        found = [turns + (turn,) for turns in found for turn in narrow_turns(width, piece)]
    return found


def solved(width, pieces):
    """The least length, a laying of this length, and for each choice of turns its search and proof.

    None if there is no laying.
    """
    if too_wide(width, pieces) is not None:
        return None
    length, laying = short_laying(width, pieces)
    proofs = {}
    for turns in choices(width, pieces):
        shapes = [turned_parts(piece[1], turn) for piece, turn in zip(pieces, turns)]
        search = Search(width, shapes, length)
        proofs[turns] = (search, search.proof())
        if search.spots is not None:
            length = search.limit
            laying = tuple([(turn, x, y) for turn, (x, y) in zip(turns, search.spots)])
    return length, laying, proofs


def least_length(width, pieces):
    """The least length of a sheet for the pieces; None if there is none."""
    found = solved(width, pieces)
    if found is None:
        return None
    return found[0]


def shortest_laying(width, pieces):
    """A laying of the pieces on a sheet of the least length; None if there is none."""
    found = solved(width, pieces)
    if found is None:
        return None
    return found[1]
