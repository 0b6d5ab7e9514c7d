"""Quarter turns and extents of parts that are known to be parts."""


def turned_corner(corner, turn):
    """The corner after so many quarter turns counterclockwise around (0, 0)."""
    x, y = corner
    for _ in range(turn):
        x, y = -y, x
    return (x, y)


def turned_part(part, turn):
    """The part in a turn, its least corner first."""
    corners = [turned_corner(corner, turn) for corner in part]
    first = corners.index(min(corners))
    return tuple(corners[first:] + corners[:first])


def turned_parts(parts, turn):
    """The parts in a turn, in their sequence."""
    return tuple([turned_part(part, turn) for part in parts])


def extent_of(parts):
    """The least and greatest x and the least and greatest y of all corners."""
    across = [x for part in parts for x, y in part]
    upright = [y for part in parts for x, y in part]
    return (min(across), max(across), min(upright), max(upright))
