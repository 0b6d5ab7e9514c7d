"""Least lengths found slowly: for each choice of turns and half planes a linear program over fractions."""

from fractions import Fraction
from itertools import combinations, product

from tests import oracle
from tests.paper_oracle import turned


def least_of_program(costs, rows):
    """The least costs * v with v >= 0 and a * v >= c for all rows (a, c); None if there is no v.

    No cost is below 0, so a full table of the dual simplex method does.
    """
    many = len(costs)
    table = [[Fraction(-number) for number in a] + [Fraction(-c)] for a, c in rows]
    bottom = [Fraction(cost) for cost in costs] + [Fraction(0)]
    basic = list(range(many, many + len(rows)))
    beside = list(range(many))
    while True:
        broken = [(basic[k], k) for k, row in enumerate(table) if row[-1] < 0]
        if not broken:
            return -bottom[-1]
        k = min(broken)[1]
        able = [(bottom[j] / -table[k][j], beside[j], j) for j in range(many) if table[k][j] < 0]
        if not able:
            return None
        j = min(able)[2]
        pivot = table[k][j]
        old = [number / pivot for number in table[k]]
        for row in table + [bottom]:
            if row is not table[k]:
                factor = row[j]
                for at in range(many + 1):
                    row[at] = row[at] - factor * old[at] if at != j else -factor / pivot
        table[k] = [number if at != j else 1 / pivot for at, number in enumerate(old)]
        basic[k], beside[j] = beside[j], basic[k]


def programs(job):
    """For each choice of turns and half planes the rows over left ends, low ends and the length."""
    width, pieces = job
    many = len(pieces)
    for turns in product(*[piece[2] for piece in pieces]):
        shapes = [[turned(part, turn) for part in piece[1]] for piece, turn in zip(pieces, turns)]
        ends = [oracle.ends(shape) for shape in shapes]
        if any(high - low > width for left, right, low, high in ends):
            continue
        rows = []
        for i, (left, right, low, high) in enumerate(ends):
            rows.append(([-1 if at == 2 * i else int(at == 2 * many) for at in range(2 * many + 1)], right - left))
            rows.append(([-int(at == 2 * i + 1) for at in range(2 * many + 1)], high - low - width))
        options = []
        for i, j in combinations(range(many), 2):
            for one, other in product(shapes[i], shapes[j]):
                options.append([plane_row(i, j, plane, ends, many) for plane in oracle.planes(one, other)])
        for chosen in product(*options):
            yield rows + list(chosen)


def plane_row(i, j, plane, ends, many):
    """A half plane told by left ends and low ends instead of places."""
    a, b, c = plane
    factors = [0] * (2 * many + 1)
    factors[2 * j] += a
    factors[2 * j + 1] += b
    factors[2 * i] -= a
    factors[2 * i + 1] -= b
    return factors, c + a * (ends[j][0] - ends[i][0]) + b * (ends[j][2] - ends[i][2])


def least(job):
    """What least must return."""
    costs = [0] * (2 * len(job[1])) + [1]
    found = [length for length in (least_of_program(costs, rows) for rows in programs(job)) if length is not None]
    return oracle.pair(min(found)) if found else None
