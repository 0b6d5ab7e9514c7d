"""A short laying to begin with: the best of the filled sheets, pressed together."""

from itertools import permutations

from snuglay.bases import first_base, length_at, settled, spots_at
from snuglay.places import fill
from snuglay.ratios import blend, is_less, minus, over, plus, whole
from snuglay.rows import border_rows, pair_rows
from snuglay.turning import turned_parts


def depth_in(row, spots):
    """How far inside the half plane of a row two laid pieces are, roughly, below 0 if they are not."""
    _, a, b, p, q, c = row
    x, y = spots[p // 2]
    u, v = spots[q // 2]
    value = plus(blend(a, minus(x, u), b, minus(y, v)), whole(c))
    return over(value, whole(abs(a) + abs(b)))


def deepest(rows, spots):
    """The row in whose half plane two laid pieces are farthest inside."""
    best, found = None, None
    for row in rows:
        depth = depth_in(row, spots)
        if best is None or is_less(best, depth):
            best, found = depth, row
    return found


def pressed(width, shapes, spots):
    """The length and the places of laid pieces, pressed together as they lie."""
    borders, pairs = border_rows(width, shapes), pair_rows(shapes)
    start = first_base(shapes, borders)
    length = None
    while True:
        parting = [deepest(rows, spots) for rows in pairs]
        base, _ = settled(start, borders + sorted(parting), None)
        shorter = length_at(base)
        if length is not None and not is_less(shorter, length):
            return length, spots
        length, spots = shorter, spots_at(base)


def short_laying(width, pieces):
    """The length and the placements of a laying that is short, if not always the shortest.

    Each piece is as narrow as the sheet in some turn.
    """
    best, found = None, None
    for order in permutations(range(len(pieces))):
        filled_so = fill(width, [pieces[k] for k in order])
        placements = [filled_so[order.index(k)] for k in range(len(pieces))]
        turns = [turn for turn, x, y in placements]
        shapes = [turned_parts(piece[1], turn) for piece, turn in zip(pieces, turns)]
        length, spots = pressed(width, shapes, [(x, y) for turn, x, y in placements])
        if best is None or is_less(length, best):
            best, found = length, [(turn, x, y) for turn, (x, y) in zip(turns, spots)]
    return best, tuple(found)
