"""The least length at which rows hold, exactly: the dual simplex method over integers.

A base is a tuple (scale, spot, rows, columns): as many rows as there are unknowns. The
vector spot, divided by the scale, is where all of them are equalities; each column,
divided by the scale, is what the vector grows by when its row alone grows by 1. All
these are integers, and the scale is above 0. In each base that stands here the length
never shrinks when a row grows, so no vector with a lesser length fulfils its rows:
their columns' entries for the length are the weights of a sum that shows it.
"""

from snuglay.ratios import ratio
from snuglay.rows import place_of_length
from snuglay.turning import extent_of


def reading(row, column):
    """What the row grows by along a column, or its value at a spot without the constant."""
    _, a, b, p, q, _ = row
    return a * (column[p] - column[q]) + b * (column[p + 1] - column[q + 1])


def first_base(shapes, borders):
    """The base of the least length at which the borders alone hold."""
    many = len(shapes)
    end = place_of_length(many)
    spot, rows, columns = [0] * (end + 2), [], []
    ends = [extent_of(parts) for parts in shapes]
    longest = max([right - left for left, right, low, high in ends])
    holder = [right - left for left, right, low, high in ends].index(longest)
    for i in range(many):
        for place, row in ((2 * i, borders[4 * i]), (2 * i + 1, borders[4 * i + 2])):
            column = [0] * (end + 2)
            column[place] = 1
            spot[place] = -row[5]
            rows.append(row)
            columns.append(column)
    column = [0] * (end + 2)
    column[end] = 1
    # the longest piece holds the right border, which moves with it
    columns[2 * holder][end] = 1
    spot[end] = longest
    return (1, spot, rows + [borders[4 * holder + 1]], columns + [column])


def first_broken(base, rows):
    """The first of the rows that does not hold at the spot, or None, and its value there."""
    scale, spot, _, _ = base
    for row in rows:
        _, a, b, p, q, c = row
        value = a * (spot[p] - spot[q]) + b * (spot[p + 1] - spot[q + 1]) + c * scale
        if value < 0:
            return row, value
    return None, 0


def yielding(base, growths, end):
    """Which row of the base yields to one that grows so along the columns; None if none can.

    The length must not shrink along a column afterwards. Of equals the row with the
    least number yields, so that the steps never go in a circle.
    """
    _, _, rows, columns = base
    found = None
    for at, growth in enumerate(growths):
        if growth > 0:
            if found is None:
                found = at
            else:
                excess = columns[at][end] * growths[found] - columns[found][end] * growth
                if excess < 0 or (excess == 0 and rows[at][0] < rows[found][0]):
                    found = at
    return found


def shifted(column, factor, pivot, main, scale):
    """A column, or the spot, after a step along the main column that takes the factor away."""
    if factor != 0:
        return [(x * pivot - factor * y) // scale for x, y in zip(column, main)]
    if pivot == scale:
        return column
    return [x * pivot // scale for x in column]


def exchanged(base, row, value, growths, at):
    """The base in which this row stands instead of the one at a position."""
    scale, spot, rows, columns = base
    main, pivot = columns[at], growths[at]
    moved = [shifted(column, growth, pivot, main, scale) for column, growth in zip(columns, growths)]
    moved[at] = main
    return (pivot, shifted(spot, value, pivot, main, scale), rows[:at] + [row] + rows[at + 1:], moved)


def count_pieces(base):
    """The number of pieces that a base is about: each has two unknowns, and one is the length."""
    return len(base[2]) // 2


def length_at(base):
    """The length at the spot of a base, a fraction."""
    return ratio(base[1][place_of_length(count_pieces(base))], base[0])


def spots_at(base):
    """The places of the pieces at the spot of a base, pairs of fractions."""
    scale, spot, _, _ = base
    return [(ratio(spot[2 * i], scale), ratio(spot[2 * i + 1], scale)) for i in range(count_pieces(base))]


def weights_of(base, end):
    """The weights, as pairs (number of a row, weight), of the sum that shows the length of a base."""
    _, _, rows, columns = base
    return [(row[0], column[end]) for row, column in zip(rows, columns) if column[end] > 0]


def is_long(base, limit, end):
    """Whether the length of a base is at least the limit, a fraction; None is never reached."""
    return limit is not None and base[1][end] * limit[1] >= limit[0] * base[0]


def settled(base, rows, limit):
    """The base of the least length at which the rows hold, and None; or None, and weights.

    The weights are those of a sum that shows that no length below the limit is enough.
    """
    end = place_of_length(count_pieces(base))
    while True:
        if is_long(base, limit, end):
            return None, weights_of(base, end)
        row, value = first_broken(base, rows)
        if row is None:
            return base, None
        growths = [reading(row, column) for column in base[3]]
        at = yielding(base, growths, end)
        if at is None:
            against = [(old[0], -growth) for old, growth in zip(base[2], growths) if growth < 0]
            return None, [(row[0], base[0])] + against
        base = exchanged(base, row, value, growths, at)
