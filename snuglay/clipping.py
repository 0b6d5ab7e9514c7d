"""A place inside both of two parts that overlap."""

from snuglay.parting import farthest, outward
from snuglay.ratios import NOUGHT, blend, is_less, minus, over, plus, times, whole


def moved(part, place):
    """The corners of a part that lies at a place, as pairs of fractions."""
    return [(plus(whole(x), place[0]), plus(whole(y), place[1])) for x, y in part]


def crossing(here, there, share):
    """The place that is a share of the way from here to there."""
    x = plus(here[0], times(share, minus(there[0], here[0])))
    y = plus(here[1], times(share, minus(there[1], here[1])))
    return (x, y)


def clipped(corners, a, b, c):
    """The corners of what a convex shape has in the half plane a * x + b * y <= c."""
    depths = [minus(c, blend(a, x, b, y)) for x, y in corners]
    found = []
    for at, here in enumerate(corners):
        depth, before = depths[at], depths[at - 1]
        if depth[0] * before[0] < 0:
            found.append(crossing(corners[at - 1], here, over(before, minus(before, depth))))
        if not is_less(depth, NOUGHT):
            found.append(here)
    return found


def shared_middle(one, place, other, spot):
    """A place inside both parts, which lie at place and spot and overlap there."""
    corners = moved(one, place)
    for a, b in outward(other):
        reach = plus(whole(farthest(other, a, b)), blend(a, spot[0], b, spot[1]))
        corners = clipped(corners, a, b, reach)
    # the mean of the corners of a convex shape that is no line lies in its interior
    x, y = NOUGHT, NOUGHT
    for u, v in corners:
        x, y = plus(x, u), plus(y, v)
    many = whole(len(corners))
    return (over(x, many), over(y, many))
