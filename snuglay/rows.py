"""The inequalities of a job whose turns are decided, as rows.

All unknowns stand in one vector: the place (x, y) of each piece, then a place that is
always (0, 0), then one that is (length, 0). So each inequality parts two of these
places. A row is (number, a, b, p, q, c); with v for the vector it says that
a * (v[p] - v[q]) + b * (v[p + 1] - v[q + 1]) + c is at least 0. The number tells the
rows of a job apart: the borders of piece I have 4 * I and the three numbers behind it,
half planes have the numbers from 4 * pieces on.
"""

from snuglay.parting import half_planes
from snuglay.turning import extent_of


def place_of_length(many):
    """Where the length stands in the vector, for so many pieces."""
    return 2 * many + 2


def border_rows(width, shapes):
    """For each piece, given by its turned parts, the rows left, right, low and high."""
    corner, end = 2 * len(shapes), place_of_length(len(shapes))
    rows = []
    for i, parts in enumerate(shapes):
        left, right, low, high = extent_of(parts)
        rows.append((4 * i, 1, 0, 2 * i, corner, left))
        rows.append((4 * i + 1, 1, 0, end, 2 * i, -right))
        rows.append((4 * i + 2, 0, 1, 2 * i, corner, low))
        rows.append((4 * i + 3, 0, -1, 2 * i, corner, width - high))
    return rows


def pairs_of(shapes):
    """The quadruples (i, a, j, b), i < j: part a of piece i and part b of piece j."""
    found = []
    for i, parts in enumerate(shapes):
        for a in range(len(parts)):
            for j in range(i + 1, len(shapes)):
                for b in range(len(shapes[j])):
                    found.append((i, a, j, b))
    return found


def pair_rows(shapes):
    """For each of the pairs of parts the rows of its half planes, in their order."""
    found = []
    number = 4 * len(shapes)
    for i, a, j, b in pairs_of(shapes):
        rows = []
        for u, v, c in half_planes(shapes[i][a], shapes[j][b]):
            rows.append((number, u, v, 2 * j, 2 * i, -c))
            number = number + 1
        found.append(rows)
    return found
