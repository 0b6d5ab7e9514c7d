"""Points 21 to 24, 5 and 6: half planes, offsets, overlaps, shared places."""

import unittest
from itertools import combinations

from snuglay.nofits import is_apart, nofit, overlaps, shared_place
from snuglay.shapes import is_laying, is_part
from tests import oracle
from tests.oracle import number
from tests.samples import BLOCK, DOC_FILLED, DOC_JOB, JOB, KITE, PLACED, SQUARE, WEDGE

WIDE = ((-40, -40), (40, -40), (40, 40), (-40, 40))
TINY = 10 ** 40


def is_inside_a_part(piece, placement, place):
    x, y = number(place[0]), number(place[1])
    return any(oracle.is_inside(shape, (x, y)) for shape in oracle.shapes_of(piece, placement))


class HalfPlanes(unittest.TestCase):
    """Point 21."""

    def test_two_squares(self):
        self.assertEqual(nofit(SQUARE, SQUARE), ((1, 0, 2), (0, 1, 2), (-1, 0, 2), (0, -1, 2)))

    def test_two_wedges(self):
        self.assertEqual(nofit(WEDGE, WEDGE), ((1, 0, 2), (1, 1, 2), (0, 1, 2), (-1, 0, 2), (-1, -1, 2), (0, -1, 2)))

    def test_the_first_part_looks_outward_and_the_second_inward(self):
        self.assertEqual(nofit(SQUARE, WEDGE), ((1, 0, 2), (0, 1, 2), (-1, 0, 2), (-1, -1, 2), (0, -1, 2)))
        self.assertEqual(nofit(WEDGE, SQUARE), ((1, 0, 2), (1, 1, 2), (0, 1, 2), (-1, 0, 2), (0, -1, 2)))

    def test_lowest_terms(self):
        long = ((-40, -40), (40, -40), (40, 0))
        self.assertEqual(nofit(long, long), ((1, 0, 80), (0, 1, 40), (-1, 2, 80), (-1, 0, 80), (0, -1, 40), (1, -2, 80)))

    def test_directions_begin_at_the_right(self):
        found = [(a, b) for a, b, c in nofit(KITE, WIDE)]
        self.assertEqual(found, [(1, 0), (3, 1), (1, 2), (0, 1), (-3, 2), (-1, 0), (-3, -2), (0, -1), (2, -3)])

    def test_any_parts(self):
        maker = oracle.Maker(21)
        counts = set()
        for _ in range(400):
            one, other = maker.part(maker.random.choice((1, 3, 40))), maker.part(maker.random.choice((1, 3, 40)))
            planes = nofit(one, other)
            self.assertEqual(planes, oracle.planes(one, other))
            counts.add(len(planes))
        self.assertLessEqual({3, 5, 6, 7, 8, 9, 10}, counts)

    def test_directions_that_both_parts_have_stand_once(self):
        self.assertEqual(nofit(WEDGE, ((0, 2), (2, 0), (2, 2))), ((1, 1, 0), (-1, 0, 2), (0, -1, 2)))


class Offsets(unittest.TestCase):
    """Points 5 and 22."""

    def test_touching_is_apart(self):
        for dx, dy, holds in (((2, 1), (0, 1), True), ((0, 1), (2, 1), True), ((-2, 1), (1, 1), True), ((1, 1), (-2, 1), True),
                              ((2, 1), (2, 1), True), ((TINY - 1, TINY), (0, 1), False), ((0, 1), (0, 1), False),
                              ((2 * TINY - 1, TINY), (0, 1), False), ((1, 1), (1, 1), False)):
            self.assertIs(is_apart(SQUARE, SQUARE, dx, dy), holds, (dx, dy))

    def test_along_a_slope(self):
        upper = ((0, 2), (2, 0), (2, 2))
        self.assertIs(is_apart(WEDGE, upper, (0, 1), (0, 1)), True)
        for dx, dy, holds in (((1, TINY), (-1, TINY), True), ((-1, TINY), (1, TINY), True), ((1, TINY), (0, 1), True),
                              ((-1, TINY), (0, 1), False), ((0, 1), (-1, TINY), False), ((1, TINY - 1), (-1, TINY), True),
                              ((1, TINY), (-1, TINY - 1), False)):
            self.assertIs(is_apart(WEDGE, upper, dx, dy), holds, (dx, dy))

    def test_one_part_within_the_other(self):
        self.assertIs(is_apart(WIDE, SQUARE, (0, 1), (0, 1)), False)
        self.assertIs(is_apart(SQUARE, WIDE, (0, 1), (0, 1)), False)
        self.assertIs(is_apart(SQUARE, SQUARE, (0, 1), (0, 1)), False)

    def test_any_offsets(self):
        maker = oracle.Maker(22)
        seen = {True: 0, False: 0}
        for _ in range(600):
            one, other = maker.part(5), maker.part(5)
            dx, dy = maker.fraction(-7, 7, 4), maker.fraction(-7, 7, 4)
            moved = oracle.moved(other, 0, number(dx), number(dy))
            holds = oracle.shared_area(list(one), moved) == 0
            in_one = any(a * number(dx) + b * number(dy) >= c for a, b, c in nofit(one, other))
            self.assertIs(is_apart(one, other, dx, dy), holds)
            self.assertIs(in_one, holds)
            seen[holds] += 1
        self.assertGreater(min(seen.values()), 100)

    def test_offsets_on_the_borders(self):
        maker = oracle.Maker(23)
        for _ in range(60):
            one, other = maker.part(6), maker.part(6)
            shape = oracle.hull([(p[0] - q[0], p[1] - q[1]) for p in one for q in other])
            middle = (sum(x for x, y in shape), sum(y for x, y in shape))
            for (x, y), (u, v) in zip(shape, shape[1:] + shape[:1]):
                self.assertIs(is_apart(one, other, (x, 1), (y, 1)), True)
                border = oracle.Fraction(x + u, 2), oracle.Fraction(y + v, 2)
                self.assertIs(is_apart(one, other, *map(oracle.pair, border)), True)
                many = len(shape)
                inner = [at + (oracle.Fraction(mid, many) - at) / 10 ** 30 for at, mid in zip(border, middle)]
                self.assertIs(is_apart(one, other, *map(oracle.pair, inner)), False)


class Overlaps(unittest.TestCase):
    """Points 6 and 23."""

    def test_the_documents_job(self):
        self.assertEqual(overlaps(DOC_JOB, DOC_FILLED), ())
        self.assertEqual(overlaps(DOC_JOB, (DOC_FILLED[0], (0, (1, 1), (0, 1)), DOC_FILLED[2])), ((0, 1),))
        same = (0, (0, 1), (0, 1))
        self.assertEqual(overlaps(DOC_JOB, (same, same, same)), ((0, 1), (0, 2), (1, 2)))

    def test_ascending_pairs_of_four(self):
        job = (9, tuple((name, (SQUARE,), (0,)) for name in "abcd"))
        self.assertEqual(overlaps(job, ((0, (0, 1), (0, 1)),) * 4), ((0, 1), (0, 2), (0, 3), (1, 2), (1, 3), (2, 3)))
        row = tuple((0, (x, 1), (0, 1)) for x in (0, 3, 1, 2))
        self.assertEqual(overlaps(job, row), ((0, 2), (1, 3), (2, 3)))

    def test_places_outside_the_sheet(self):
        self.assertEqual(overlaps((1, (BLOCK, ("b", (SQUARE,), (0,)))), ((0, (-50, 1), (-70, 1)), (0, (-99, 2), (-70, 1)))),
                         ((0, 1),))

    def test_one_piece_alone(self):
        self.assertEqual(overlaps((1, (("a", (SQUARE, SQUARE), (0,)),)), ((0, (0, 1), (0, 1)),)), ())

    def test_any_placements(self):
        maker = oracle.Maker(24)
        seen = set()
        for _ in range(300):
            pieces = tuple((name, parts, turns[:1]) for name, parts, turns in maker.pieces())
            value = tuple(maker.placement(piece, -3, 8) for piece in pieces)
            laid = [oracle.shapes_of(piece, placement) for piece, placement in zip(pieces, value)]
            expected = tuple((i, j) for i, j in combinations(range(len(laid)), 2)
                             if oracle.do_overlap(laid[i], laid[j]))
            self.assertEqual(overlaps((100, pieces), value), expected)
            self.assertIs(is_laying((100, pieces), (1000, 1), value), expected == () and all(
                oracle.ends(shapes)[0] >= 0 and oracle.ends(shapes)[2] >= 0 for shapes in laid))
            seen.add(len(expected))
        self.assertGreater(len(seen), 3)


class SharedPlaces(unittest.TestCase):
    """Points 6 and 24."""

    def check(self, job, value):
        pairs = overlaps(job, value)
        for i in range(len(value)):
            for j in range(len(value)):
                if i != j:
                    place = shared_place(job, value, i, j)
                    self.assertIs(place is not None, (min(i, j), max(i, j)) in pairs)
                    if place is not None:
                        self.assertTrue(is_inside_a_part(job[1][i], value[i], place))
                        self.assertTrue(is_inside_a_part(job[1][j], value[j], place))
                        for top, bottom in place:
                            self.assertEqual(oracle.pair(oracle.Fraction(top, bottom)), (top, bottom))

    def test_the_documents_job(self):
        self.check(DOC_JOB, DOC_FILLED)
        self.check(DOC_JOB, ((0, (0, 1), (0, 1)),) * 3)
        self.check(JOB, PLACED)

    def test_touching_pieces_share_none(self):
        job = (9, (BLOCK, ("b", (SQUARE,), (0,))))
        for x, y in ((2, 0), (2, 2), (-2, 1), (0, -2)):
            self.assertIsNone(shared_place(job, ((0, (0, 1), (0, 1)), (0, (x, 1), (y, 1))), 0, 1))
            self.assertIsNone(shared_place(job, ((0, (0, 1), (0, 1)), (0, (x, 1), (y, 1))), 1, 0))

    def test_thin_overlaps(self):
        job = (9, (BLOCK, ("b", (SQUARE,), (0,)), ("c", (WEDGE,), (0, 2))))
        near = (2 * TINY - 1, TINY)
        self.check(job, ((0, (0, 1), (0, 1)), (0, near, near), (2, (1, TINY), (1, TINY))))
        self.check(job, ((0, (0, 1), (0, 1)), (0, (0, 1), near), (0, near, (0, 1))))

    def test_parts_of_which_only_some_overlap(self):
        job = (50, (("a", (SQUARE, ((10, 10), (12, 10), (12, 12))), (0,)), ("b", (WEDGE, ((-9, 0), (-8, 0), (-8, 1))), (0,))))
        for x, y in ((0, 0), (10, 10), (20, 11), (19, 10), (30, 0), (11, 9)):
            self.check(job, ((0, (0, 1), (0, 1)), (0, (x, 1), (y, 1))))

    def test_any_placements(self):
        maker = oracle.Maker(25)
        for _ in range(200):
            pieces = tuple((name, parts, turns[:1]) for name, parts, turns in maker.pieces())
            self.check((100, pieces), tuple(maker.placement(piece, -3, 6) for piece in pieces))

    def test_parts_used_are_parts(self):
        self.assertTrue(is_part(WIDE) and is_part(KITE))


if __name__ == "__main__":
    unittest.main()
