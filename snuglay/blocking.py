"""Where laid parts block a further piece, and what they leave free.

A block is a list of rows (a, b, c): in it lies the piece whose left end and low
end are such that a * left end + b * low end < c in all rows, so that two parts
overlap. At a left end the low ends in a block, if any, are those between two
bounds. A slice is a triple (low bound, high bound, block).
"""

from snuglay.parting import half_planes
from snuglay.ratios import NOUGHT, blend, greater, is_less, lesser, minus, over, plus, times, whole
from snuglay.turning import extent_of


def blocks_of(laid, parts):
    """The blocks of laid pieces (parts, x, y) for a further piece with these parts."""
    left, _, low, _ = extent_of(parts)
    found = []
    for others, x, y in laid:
        for other in others:
            for part in parts:
                planes = half_planes(other, part)
                found.append([(a, b, plus(blend(a, x, b, y), whole(c + a * left + b * low))) for a, b, c in planes])
    return found


def slices_at(blocks, left):
    """The slices of the blocks at a left end."""
    found = []
    for block in blocks:
        low, high, is_beside = None, None, False
        for a, b, c in block:
            rest = minus(c, times(whole(a), left))
            if b > 0:
                high = lesser(high, over(rest, whole(b)))
            elif b < 0:
                low = greater(low, over(rest, whole(b)))
            elif not is_less(NOUGHT, rest):
                is_beside = True
        if not is_beside and is_less(low, high):
            found.append((low, high, block))
    return found


def holder(slices, at):
    """The highest slice that holds a low end; None if there is none."""
    found = None
    for one in slices:
        if is_less(one[0], at) and is_less(at, one[1]):
            if found is None or is_less(found[1], one[1]):
                found = one
    return found


def climbed(slices, at, top):
    """The least free low end from this one on, and the blocks climbed to it.

    A low end above the top is told as soon as one is reached.
    """
    passed = []
    one = holder(slices, at)
    while one is not None and not is_less(top, at):
        passed.append(one[2])
        at = one[1]
        one = holder(slices, at)
    return at, passed


def free_at(slices, top):
    """The spans (low, high) of the free low ends from nought to the top, ascending."""
    spans = []
    at, _ = climbed(slices, NOUGHT, top)
    while not is_less(top, at):
        high, behind = top, None
        for one in slices:
            if is_less(one[0], high) and not is_less(one[0], at):
                high, behind = one[0], one[1]
        spans.append((at, high))
        if behind is None:
            break
        at, _ = climbed(slices, behind, top)
    return tuple(spans)


def meeting(under, above):
    """The left end from which on one block no longer reaches into another above it.

    None if there is none. As the left end grows, the high bound of the one and the
    low bound of the other come together first where two of their rows do.
    """
    found = None
    for a, b, c in under:
        for d, e, f in above:
            if b > 0 and e < 0 and b * d > e * a:
                found = lesser(found, over(blend(b, f, -e, c), whole(b * d - e * a)))
    return found


def opening(chain, top):
    """The left end up to which a chain of blocks leaves no low end free.

    Each block of the chain reaches into the next one, the first one below nought and
    the last one above the top. As long as they do so, and none has ended at an upright
    side, they block all between nought and the top.
    """
    floor = [(0, 1, NOUGHT)]
    ceiling = [(0, -1, minus(NOUGHT, top))]
    found = None
    for under, above in zip([floor] + chain, chain + [ceiling]):
        found = lesser(found, meeting(under, above))
    for block in chain:
        for a, b, c in block:
            if b == 0 and a > 0:
                found = lesser(found, over(c, whole(a)))
    return found


def first_ends(blocks, top):
    """The least left end from nought on with a free low end, and the least of these."""
    left = NOUGHT
    while True:
        low, chain = climbed(slices_at(blocks, left), NOUGHT, top)
        if not is_less(top, low):
            return (left, low)
        left = opening(chain, top)
