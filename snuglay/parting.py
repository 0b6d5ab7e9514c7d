"""The half planes that part two parts, and which laid pieces overlap."""

from math import gcd

from snuglay.ratios import blend, is_less, minus, whole
from snuglay.turning import turned_parts


def sides(part):
    """The sides of a part: pairs of a corner and the next one."""
    return list(zip(part, part[1:] + part[:1]))


def outward(part):
    """The directions across the sides of a part, outward, in lowest terms."""
    found = []
    for (x, y), (u, v) in sides(part):
        shared = gcd(u - x, v - y)
        found.append(((v - y) // shared, (x - u) // shared))
    return found


def is_lower_half(direction):
    """Whether the direction is half a turn or more away from (1, 0)."""
    a, b = direction
    return b < 0 or (b == 0 and a < 0)


def is_ahead(one, other):
    """Whether, counterclockwise from (1, 0) on, the first direction comes first."""
    if is_lower_half(one) != is_lower_half(other):
        return is_lower_half(other)
    return one[0] * other[1] - one[1] * other[0] > 0


def with_direction(directions, new):
    """The ordered directions and the new one among them, each once."""
    for at, old in enumerate(directions):
        if old == new:
            return directions
        if is_ahead(new, old):
            return directions[:at] + [new] + directions[at:]
    return directions + [new]


def farthest(part, a, b):
    """The greatest a * x + b * y over the corners of a part."""
    return max([a * x + b * y for x, y in part])


def half_planes(one, other):
    """The triples (a, b, c) of the half planes for two parts, in their order."""
    directions = []
    for a, b in outward(one):
        directions = with_direction(directions, (a, b))
    for a, b in outward(other):
        directions = with_direction(directions, (-a, -b))
    # the least over the other part is the greatest of the opposite direction, negated
    return tuple([(a, b, farthest(one, a, b) + farthest(other, -a, -b)) for a, b in directions])


def are_parted(one, other, dx, dy):
    """Whether the second part, moved by (dx, dy), overlaps the first nowhere."""
    for a, b, c in half_planes(one, other):
        if not is_less(blend(a, dx, b, dy), whole(c)):
            return True
    return False


def laid_pieces(pieces, placements):
    """For each laid piece the triple (parts, x, y): its turned parts and its place."""
    return [(turned_parts(piece[1], turn), x, y) for piece, (turn, x, y) in zip(pieces, placements)]


def clashing_parts(one, other):
    """Two parts, one of each laid piece, that overlap as they lie; None if there are none."""
    parts, x, y = one
    others, u, v = other
    dx, dy = minus(u, x), minus(v, y)
    for part in parts:
        for against in others:
            if not are_parted(part, against, dx, dy):
                return (part, against)
    return None


def clashes(laid):
    """The ascending pairs of numbers of laid pieces that overlap."""
    found = []
    for j, other in enumerate(laid):
        for i, one in enumerate(laid[:j]):
            if clashing_parts(one, other) is not None:
                found.append((i, j))
    return tuple(sorted(found))
