"""Parting parts: half planes, overlaps of laid pieces, and places in both of two."""

from snuglay.clipping import shared_middle
from snuglay.errors import BadValue
from snuglay.parting import are_parted, clashes, clashing_parts, half_planes, laid_pieces
from snuglay.shapes import are_placements, is_job, is_part
from snuglay.values import is_fraction, is_from_to, plain


def nofit(one, other):
    """The half planes (a, b, c) for two parts, counterclockwise from (1, 0) on."""
    if not is_part(one):
        raise BadValue(0)
    if not is_part(other):
        raise BadValue(1)
    return half_planes(plain(one), plain(other))


def is_apart(one, other, dx, dy):
    """Whether the second part, moved by (dx, dy), and the first do not overlap."""
    if not is_part(one):
        raise BadValue(0)
    if not is_part(other):
        raise BadValue(1)
    if not is_fraction(dx):
        raise BadValue(2)
    if not is_fraction(dy):
        raise BadValue(3)
    return are_parted(plain(one), plain(other), plain(dx), plain(dy))


def laid_of(job, value):
    """The laid pieces of a job with its placements, both of which are checked."""
    if not is_job(job):
        raise BadValue(0)
    if not are_placements(job[1], value):
        raise BadValue(1)
    return laid_pieces(plain(job[1]), plain(value))


def overlaps(job, value):
    """The pairs (i, j), i < j, of numbers of pieces that overlap, ascending."""
    return clashes(laid_of(job, value))


def shared_place(job, value, i, j):
    """A place in the interior of a part of piece i and of one of piece j, or None."""
    laid = laid_of(job, value)
    if not is_from_to(i, 0, len(laid) - 1):
        raise BadValue(2)
    if not is_from_to(j, 0, len(laid) - 1) or i == j:
        raise BadValue(3)
    found = clashing_parts(laid[i], laid[j])
    if found is None:
        return None
    return shared_middle(found[0], laid[i][1:], found[1], laid[j][1:])
