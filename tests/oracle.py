"""Slow, plain answers over Python's Fraction, reckoned another way than the package does."""

from fractions import Fraction
from itertools import combinations
from math import gcd
from random import Random


def pair(number):
    number = Fraction(number)
    return (number.numerator, number.denominator)


def number(fraction):
    return Fraction(fraction[0], fraction[1])


def quarter(corner, turn):
    x, y = corner
    return ((x, y), (-y, x), (-x, -y), (y, -x))[turn]


def moved(part, turn, x, y):
    return [(u + x, v + y) for u, v in (quarter(corner, turn) for corner in part)]


def cross(o, p, q):
    return (p[0] - o[0]) * (q[1] - o[1]) - (p[1] - o[1]) * (q[0] - o[0])


def hull(places):
    """The corners of the convex hull, counterclockwise from the least on."""
    places = sorted(set(places))
    if len(places) < 3:
        return places
    halves = []
    for row in (places, places[::-1]):
        half = []
        for place in row:
            while len(half) > 1 and cross(half[-2], half[-1], place) <= 0:
                half.pop()
            half.append(place)
        halves.append(half[:-1])
    return halves[0] + halves[1]


def shared_area(one, other):
    """Twice the area that two convex shapes share, by clipping."""
    corners = one
    for p, q in zip(other, other[1:] + other[:1]):
        kept = []
        for here, there in zip(corners, corners[1:] + corners[:1]):
            h, t = cross(p, q, here), cross(p, q, there)
            if h >= 0:
                kept.append(here)
            if h * t < 0:
                w = Fraction(h) / (h - t)
                kept.append((here[0] + w * (there[0] - here[0]), here[1] + w * (there[1] - here[1])))
        corners = kept
    return sum(p[0] * q[1] - p[1] * q[0] for p, q in zip(corners, corners[1:] + corners[:1]))


def shapes_of(piece, placement):
    turn, x, y = placement
    return [moved(part, turn, number(x), number(y)) for part in piece[1]]


def do_overlap(shapes, others):
    return any(shared_area(one, other) > 0 for one in shapes for other in others)


def ends(shapes):
    across = [x for shape in shapes for x, y in shape]
    upright = [y for shape in shapes for x, y in shape]
    return min(across), max(across), min(upright), max(upright)


def is_laying(job, length, placements):
    laid = [shapes_of(piece, placement) for piece, placement in zip(job[1], placements)]
    for shapes in laid:
        left, right, low, high = ends(shapes)
        if left < 0 or low < 0 or right > number(length) or high > job[0]:
            return False
    return not any(do_overlap(one, other) for one, other in combinations(laid, 2))


def is_free(width, laid, piece, placement):
    shapes = shapes_of(piece, placement)
    left, right, low, high = ends(shapes)
    if left < 0 or low < 0 or high > width:
        return False
    return not any(do_overlap(shapes_of(other, at), shapes) for other, at in laid)


def obstacles(laid, piece, turn):
    """For each laid part and part of the piece the hull of the ends (left, low) that it blocks."""
    shapes = [moved(part, turn, 0, 0) for part in piece[1]]
    left, right, low, high = ends(shapes)
    found = []
    for other, placement in laid:
        for shape in shapes_of(other, placement):
            for own in shapes:
                found.append(hull([(p[0] - q[0] + left, p[1] - q[1] + low) for p in shape for q in own]))
    return found


def heights(shape, x):
    """The least and the greatest y of a convex shape above x, or None."""
    found = [q[1] for q in shape if q[0] == x]
    for p, q in zip(shape, shape[1:] + shape[:1]):
        if (p[0] - x) * (q[0] - x) < 0:
            found.append(p[1] + (q[1] - p[1]) * Fraction(x - p[0]) / (q[0] - p[0]))
    return (min(found), max(found)) if found else None


def is_inside(shape, place):
    return all(cross(p, q, place) > 0 for p, q in zip(shape, shape[1:] + shape[:1]))


def top_of(width, piece, turn):
    left, right, low, high = ends([moved(part, turn, 0, 0) for part in piece[1]])
    return width - (high - low)


def spans(width, laid, piece, turn, left):
    """What free_spans must return: each height at which something may change is tried, and those between."""
    top = top_of(width, piece, turn)
    if top < 0:
        return ()
    shapes = obstacles(laid, piece, turn)
    levels = {Fraction(0), Fraction(top)}
    for shape in shapes:
        for y in heights(shape, left) or ():
            if 0 <= y <= top:
                levels.add(Fraction(y))
    levels = sorted(levels)
    found = []
    joined = False
    for at, level in enumerate(levels):
        if not any(is_inside(shape, (left, level)) for shape in shapes):
            if joined:
                found[-1][1] = level
            else:
                found.append([level, level])
            joined = at + 1 < len(levels) and not any(
                is_inside(shape, (left, (level + levels[at + 1]) / 2)) for shape in shapes)
        else:
            joined = False
    return tuple((pair(low), pair(high)) for low, high in found)


def crossings(shapes, top):
    """All x from 0 on at which the free heights may come or go."""
    rows = []
    found = {Fraction(0)}
    for shape in shapes:
        found.update(Fraction(x) for x, y in shape)
        rows.extend(zip(shape, shape[1:] + shape[:1]))
    rows.append(((0, 0), (1, 0)))
    rows.append(((0, top), (1, top)))
    for (p, q), (r, s) in combinations(rows, 2):
        d, e = (q[0] - p[0], q[1] - p[1]), (s[0] - r[0], s[1] - r[1])
        base = d[0] * e[1] - d[1] * e[0]
        if base != 0:
            w = Fraction((r[0] - p[0]) * e[1] - (r[1] - p[1]) * e[0]) / base
            found.add(p[0] + w * d[0])
    return sorted(x for x in found if x >= 0)


def first(width, laid, piece):
    """What first_place must return: each left end at which something may change is tried."""
    best = None
    for turn in piece[2]:
        left, right, low, high = ends([moved(part, turn, 0, 0) for part in piece[1]])
        top = top_of(width, piece, turn)
        if top < 0:
            continue
        for x in crossings(obstacles(laid, piece, turn), top):
            if best is not None and x > best[0][0]:
                break
            free = spans(width, laid, piece, turn, x)
            if free:
                key = (x, number(free[0][0]), turn)
                if best is None or key < best[0]:
                    best = (key, (turn, pair(x - left), pair(key[1] - low)))
                break
    return best[1] if best else None


def planes(one, other):
    """What nofit must return, from the greatest values over all corners."""
    found = set()
    for part, sign in ((one, 1), (other, -1)):
        for (x, y), (u, v) in zip(part, part[1:] + part[:1]):
            shared = gcd(u - x, v - y) * sign
            found.add(((v - y) // shared, (x - u) // shared))

    def angle(direction):
        a, b = direction
        half = 0 if b > 0 or (b == 0 and a > 0) else 1
        # in each half, -a / (|a| + |b|), with its sign turned in the lower one, grows with the angle
        return (half, Fraction(-a if half == 0 else a, abs(a) + abs(b)))

    return tuple((a, b, max(a * x + b * y for x, y in one) - min(a * x + b * y for x, y in other))
                 for a, b in sorted(found, key=angle))


class Maker:
    """Makes parts, pieces and placements; the same ones in every run."""

    def __init__(self, seed):
        self.random = Random(seed)

    def part(self, reach, shift=0):
        while True:
            many = self.random.randint(3, 6)
            places = [(self.random.randint(-reach, reach) + shift, self.random.randint(-reach, reach) - shift)
                      for _ in range(many)]
            corners = hull(places)
            if 3 <= len(corners) <= 5:
                return tuple(corners)

    def turns(self, most=4):
        many = self.random.randint(1, most)
        return tuple(sorted(self.random.sample(range(4), many)))

    def piece(self, name="p", most=3, reach=5, turns=4):
        parts = tuple(self.part(reach, self.random.choice((0, 0, 1, -2))) for _ in range(self.random.randint(1, most)))
        return (name, parts, self.turns(turns))

    def fraction(self, low, high, bottom=6):
        down = self.random.randint(1, bottom)
        return pair(Fraction(self.random.randint(low * down, high * down), down))

    def placement(self, piece, low, high, bottom=6):
        return (self.random.choice(piece[2]), self.fraction(low, high, bottom), self.fraction(low, high, bottom))

    def pieces(self, turns=4):
        """Up to 4 pieces of at most 4 parts in all."""
        found, left = [], 4
        for name in ("a", "b", "c", "d")[:self.random.randint(1, 4)]:
            if left:
                piece = self.piece(name, min(left, 3), self.random.choice((2, 4, 6)), turns)
                left -= len(piece[1])
                found.append(piece)
        return tuple(found)

    def laid(self, low, high, bottom=6):
        return tuple((piece, self.placement(piece, low, high, bottom)) for piece in self.pieces())
