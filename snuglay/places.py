"""Free places: the first one, all along a line, and a sheet filled at first places."""

from snuglay.blocking import blocks_of, first_ends, free_at, slices_at
from snuglay.errors import BadValue
from snuglay.parting import laid_pieces
from snuglay.ratios import NOUGHT, greater, is_less, minus, plus, whole
from snuglay.shapes import are_placements, count_parts, is_job, is_piece, is_placement, is_turn, is_width
from snuglay.turning import extent_of, turned_parts
from snuglay.values import is_fraction, is_row, plain


def is_laid(value):
    """Whether the value is a pair of a piece and a placement of it."""
    return is_row(value, 2, 2) and is_piece(value[0]) and is_placement(value[0], value[1])


def are_laid(value):
    """Whether the value is a sequence of at most 4 laid pieces with at most 4 parts."""
    if not is_row(value, 0, 4) or not all([is_laid(pair) for pair in value]):
        return False
    return count_parts([piece for piece, placement in value]) <= 4


def laid_pairs(pairs):
    """For pairs (piece, placement) the laid pieces, as triples (parts, x, y)."""
    return laid_pieces([piece for piece, placement in pairs], [placement for piece, placement in pairs])


def top_of(width, parts):
    """The greatest low end of these parts on a sheet of a width; below nought if they are too wide."""
    _, _, low, high = extent_of(parts)
    return whole(width - (high - low))


def place_in_turn(width, laid, piece, turn):
    """The first left end and low end of a piece in a turn, or None."""
    parts = turned_parts(piece[1], turn)
    top = top_of(width, parts)
    if is_less(top, NOUGHT):
        return None
    return first_ends(blocks_of(laid, parts), top)


def is_sooner(one, other):
    """Whether the first pair (left end, low end) comes before the second."""
    if one[0] == other[0]:
        return is_less(one[1], other[1])
    return is_less(one[0], other[0])


def place_among(width, laid, piece):
    """The first placement of a piece among laid ones (parts, x, y), or None."""
    found, chosen = None, None
    for turn in piece[2]:
        ends = place_in_turn(width, laid, piece, turn)
        if ends is not None and (found is None or is_sooner(ends, found)):
            found, chosen = ends, turn
    if found is None:
        return None
    left, _, low, _ = extent_of(turned_parts(piece[1], chosen))
    return (chosen, minus(found[0], whole(left)), minus(found[1], whole(low)))


def check_question(width, laid, piece):
    """Refuses what is no width, no laid pieces or no piece."""
    if not is_width(width):
        raise BadValue(0)
    if not are_laid(laid):
        raise BadValue(1)
    if not is_piece(piece):
        raise BadValue(2)


def first_place(width, laid, piece):
    """The free placement of a piece with the least left end, low end and turn, or None."""
    check_question(width, laid, piece)
    return place_among(width, laid_pairs(plain(laid)), plain(piece))


def free_spans(width, laid, piece, turn, left):
    """The spans (low, high) of low ends at which a piece is free at a left end."""
    check_question(width, laid, piece)
    if not is_turn(turn) or turn not in piece[2]:
        raise BadValue(3)
    if not is_fraction(left) or is_less(left, NOUGHT):
        raise BadValue(4)
    parts = turned_parts(plain(piece[1]), turn)
    blocks = blocks_of(laid_pairs(plain(laid)), parts)
    return free_at(slices_at(blocks, plain(left)), top_of(width, parts))


def fill(width, pieces):
    """The placements of the pieces, each the first one among those before it, or None."""
    placements = []
    for at, piece in enumerate(pieces):
        placement = place_among(width, laid_pieces(pieces[:at], placements), piece)
        if placement is None:
            return None
        placements.append(placement)
    return tuple(placements)


def filled(job):
    """The placements of the pieces of a job, each the first one among those before it, or None."""
    if not is_job(job):
        raise BadValue(0)
    width, pieces = plain(job)
    return fill(width, pieces)


def length_of(job, value):
    """The greatest right end of the laid pieces of a job."""
    if not is_job(job):
        raise BadValue(0)
    if not are_placements(job[1], value):
        raise BadValue(1)
    found = None
    for parts, x, _ in laid_pieces(plain(job[1]), plain(value)):
        found = greater(found, plus(x, whole(extent_of(parts)[1])))
    return found
