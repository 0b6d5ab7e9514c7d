"""Points 16 to 20 and 6: pieces, jobs, turns, extents, placements, layings."""

import unittest
from fractions import Fraction

from snuglay.nofits import overlaps
from snuglay.places import filled, length_of
from snuglay.shapes import extent, is_job, is_laying, is_piece, turned
from tests import oracle
from tests.samples import (BAD_JOBS, BAD_NAMES, BAD_PARTS, BAD_PIECES, BLOCK, DOC_FILLED, DOC_JOB, JOB, KITE, PAIR,
                           SQUARE, STAR, WEDGE, listed)


def one_part(part):
    return ("a", (part,), (0,))


class Pieces(unittest.TestCase):
    """Points 16 and 17."""

    def test_names(self):
        for name in ("a", "z", "abcdefgh", "zz", "mno"):
            self.assertIs(is_piece((name, (SQUARE,), (0,))), True)
        for name in BAD_NAMES:
            self.assertIs(is_piece((name, (SQUARE,), (0,))), False, name)

    def test_corners_at_the_limits(self):
        for part in (((-40, -40), (40, -40), (40, 40), (-40, 40)), ((-40, 0), (0, -40), (40, 0), (0, 40)),
                     ((39, 39), (40, 39), (39, 40))):
            self.assertIs(is_piece(one_part(part)), True)
        for part in (((-41, -40), (40, -40), (40, 40)), ((-40, -41), (40, -40), (40, 40)), ((0, 0), (41, 0), (0, 1)),
                     ((0, 0), (1, 0), (0, 41))):
            self.assertIs(is_piece(one_part(part)), False)

    def test_numbers_of_corners(self):
        around = ((-2, 0), (-1, -2), (1, -2), (2, 0), (1, 2), (-1, 2))
        for many in (3, 4, 5):
            self.assertIs(is_piece(one_part(around[:many])), True)
        for many in (0, 1, 2, 6):
            self.assertIs(is_piece(one_part(around[:many])), False)

    def test_wrong_parts(self):
        for part in BAD_PARTS:
            self.assertIs(is_piece(one_part(part)), False, part)
            self.assertIs(is_piece(("a", (SQUARE, KITE, part), (0,))), False, part)

    def test_the_way_goes_around_once(self):
        for p, q, r in zip(STAR, STAR[1:] + STAR[:1], STAR[2:] + STAR[:2]):
            self.assertGreater(oracle.cross(p, q, r), 0)
        self.assertIs(is_piece(one_part(STAR)), False)
        self.assertIs(is_piece(one_part(tuple(oracle.hull(STAR)))), True)

    def test_each_sequence_of_corners_of_a_small_grid(self):
        grid = [(x, y) for x in (0, 1, 2) for y in (0, 1)] + [(1, 2)]
        rows = [[place] for place in grid]
        for _ in range(3):
            rows = [row + [place] for row in rows for place in grid]
            for row in rows:
                if len(row) > 2:
                    self.assertIs(is_piece(one_part(tuple(row))), row == oracle.hull(row), row)

    def test_parts_may_overlap_or_lie_apart(self):
        self.assertIs(is_piece(("a", (SQUARE, SQUARE, SQUARE), (0,))), True)
        self.assertIs(is_piece(("a", (SQUARE, ((30, 30), (31, 30), (31, 31))), (0,))), True)
        self.assertIs(is_piece(("a", (SQUARE,) * 4, (0,))), False)
        self.assertIs(is_piece(("a", (), (0,))), False)

    def test_turns(self):
        for bits in range(16):
            turns = tuple(turn for turn in range(4) if bits >> turn & 1)
            self.assertIs(is_piece(("a", (SQUARE,), turns)), bits > 0)
            self.assertIs(is_piece(("a", (SQUARE,), turns[::-1])), len(turns) == 1)
            self.assertIs(is_piece(("a", (SQUARE,), turns + turns[-1:])), False)

    def test_wrong_pieces(self):
        for piece in BAD_PIECES:
            self.assertIs(is_piece(piece), False, piece)
            self.assertIs(is_piece(listed(piece)), False, piece)


class Jobs(unittest.TestCase):
    """Points 16 and 17."""

    def test_widths(self):
        for width in (1, 2, 50, 99, 100):
            self.assertIs(is_job((width, (BLOCK,))), True)
        for width in (0, -1, 101, 1000):
            self.assertIs(is_job((width, (BLOCK,))), False)

    def test_numbers_of_pieces_and_parts(self):
        for many in range(6):
            pieces = tuple((name, (WEDGE,), (1,)) for name in "abcde"[:many])
            self.assertIs(is_job((9, pieces)), 1 <= many <= 4)
        for one in (1, 2, 3):
            for other in (1, 2, 3):
                pieces = (("a", (SQUARE,) * one, (0,)), ("b", (WEDGE,) * other, (0,)))
                self.assertIs(is_job((9, pieces)), one + other <= 4)
        pieces = (("a", (SQUARE,) * 2, (0,)), ("b", (SQUARE,), (0,)), ("c", (SQUARE,), (0,)))
        self.assertIs(is_job((9, pieces)), True)
        self.assertIs(is_job((9, pieces + (("d", (SQUARE,), (0,)),))), False)

    def test_names_are_different(self):
        self.assertIs(is_job((9, (("a", (SQUARE,), (0,)), ("ab", (SQUARE,), (0,))))), True)
        self.assertIs(is_job((9, (("a", (SQUARE,), (0,)), ("b", (SQUARE,), (0,)), ("a", (WEDGE,), (1,))))), False)

    def test_numbers_of_turns(self):
        for one in range(1, 5):
            for other in range(1, 5):
                for third in (1, 2):
                    pieces = tuple((name, (SQUARE,), tuple(range(many)))
                                   for name, many in (("a", one), ("b", other), ("c", third)))
                    self.assertIs(is_job((9, pieces)), one * other * third <= 4)

    def test_a_piece_need_not_fit(self):
        self.assertIs(is_job((1, (BLOCK,))), True)

    def test_wrong_jobs(self):
        for job in BAD_JOBS:
            self.assertIs(is_job(job), False, job)
            self.assertIs(is_job(listed(job)), False, job)


class Turns(unittest.TestCase):
    """Point 18."""

    def test_one_piece_in_all_turns(self):
        piece = ("a", (((1, 0), (4, 0), (1, 2)), ((-3, 5), (-2, 5), (-2, 6), (-3, 6))), (0,))
        self.assertEqual(turned(piece, 0), piece[1])
        self.assertEqual(turned(piece, 1), (((-2, 1), (0, 1), (0, 4)), ((-6, -3), (-5, -3), (-5, -2), (-6, -2))))
        self.assertEqual(turned(piece, 2), (((-4, 0), (-1, -2), (-1, 0)), ((2, -6), (3, -6), (3, -5), (2, -5))))
        self.assertEqual(turned(piece, 3), (((0, -4), (2, -1), (0, -1)), ((5, 2), (6, 2), (6, 3), (5, 3))))
        self.assertEqual(extent(piece, 0), (-3, 4, 0, 6))
        self.assertEqual(extent(piece, 1), (-6, 0, -3, 4))
        self.assertEqual(extent(piece, 2), (-4, 3, -6, 0))
        self.assertEqual(extent(piece, 3), (0, 6, -4, 3))

    def test_turns_that_the_piece_has_not(self):
        for turn in range(4):
            self.assertEqual(extent(BLOCK, turn), ((0, 2, 0, 2), (-2, 0, 0, 2), (-2, 0, -2, 0), (0, 2, -2, 0))[turn])

    def test_any_pieces(self):
        maker = oracle.Maker(18)
        for _ in range(100):
            piece = maker.piece(reach=38)
            for turn in range(4):
                shapes = [oracle.moved(part, turn, 0, 0) for part in piece[1]]
                expected = tuple(tuple(oracle.hull(shape)) for shape in shapes)
                self.assertEqual(turned(piece, turn), expected)
                self.assertIs(is_piece(("t", turned(piece, turn), (0,))), True)
                self.assertEqual(extent(piece, turn), oracle.ends(shapes))


class Layings(unittest.TestCase):
    """Points 19, 20 and 6."""

    def test_the_documents_job(self):
        self.assertIs(is_laying(DOC_JOB, (4, 1), DOC_FILLED), True)
        self.assertIs(is_laying(DOC_JOB, (399, 100), DOC_FILLED), False)
        self.assertIs(is_laying(DOC_JOB, (9, 2), DOC_FILLED), True)
        self.assertIs(is_laying((1, DOC_JOB[1]), (4, 1), DOC_FILLED), False)

    def test_each_end(self):
        job = (4, (("a", (WEDGE,), (0, 2)),))
        for turn, x, y in ((0, 0, 0), (2, 2, 2)):
            for dx, dy, holds in ((0, 0, True), (1, 2, True), (1, 0, True), (0, 2, True), (-1, 0, False), (0, -1, False),
                                  (2, 0, False), (0, 3, False)):
                value = ((turn, (x + dx, 1), (y + dy, 1)),)
                self.assertIs(is_laying(job, (3, 1), value), holds, value)
        tiny = 10 ** 40
        for x, y, holds in (((-1, tiny), (0, 1), False), ((0, 1), (-1, tiny), False), ((1, tiny), (0, 1), True),
                            ((0, 1), (1, tiny), True), ((tiny + 1, tiny), (0, 1), False),
                            ((0, 1), (2 * tiny + 1, tiny), False), ((tiny - 1, tiny), (2 * tiny - 1, tiny), True)):
            self.assertIs(is_laying(job, (3, 1), ((0, x, y),)), holds, (x, y))

    def test_lengths(self):
        job = (2, (BLOCK,))
        value = ((0, (0, 1), (0, 1)),)
        for length, holds in (((2, 1), True), ((10 ** 40, 1), True), ((2 * 10 ** 39 - 1, 10 ** 39), False), ((0, 1), False),
                              ((-2, 1), False), ((-10 ** 40, 1), False), ((10 ** 40, 5 * 10 ** 39 - 1), True)):
            self.assertIs(is_laying(job, length, value), holds, length)

    def test_what_is_no_sequence_of_placements(self):
        right = ((0, (0, 1), (0, 1)), (0, (4, 1), (4, 1)))
        self.assertIs(is_laying(JOB, (20, 1), right), True)
        for wrong in ((right[0],), right + right[:1], (), ((1, (0, 1), (0, 1)), right[1]), (right[0], (1, (4, 1), (4, 1))),
                      ((0, (0, 2), (0, 1)), right[1]), ((False, (0, 1), (0, 1)), right[1]), ((0, 0, 0), right[1]),
                      ((0, (0, 1)), right[1]), "ab", None, (None, None), JOB):
            self.assertIs(is_laying(JOB, (20, 1), wrong), False, wrong)

    def test_touching_is_no_overlap(self):
        job = (9, (BLOCK, ("b", (SQUARE,), (0, 1))))
        for x, y, holds in ((2, 0, True), (2, 1, True), (2, 2, True), (1, 2, True), (0, 2, True), (0, 1, False),
                            (1, 0, False), (0, 0, False), (1, 1, False)):
            value = ((0, (0, 1), (0, 1)), (0, (x, 1), (y, 1)))
            self.assertIs(is_laying(job, (9, 1), value), holds)
            self.assertEqual(overlaps(job, value), () if holds else ((0, 1),))

    def test_parts_of_one_piece_may_overlap(self):
        job = (3, (("a", (SQUARE, ((1, 1), (3, 1), (3, 3), (1, 3)), SQUARE), (0,)),))
        self.assertIs(is_laying(job, (3, 1), ((0, (0, 1), (0, 1)),)), True)

    def test_pieces_within_gaps_of_others(self):
        frame = ("a", (((0, 0), (6, 0), (6, 2), (0, 2)), ((0, 4), (6, 4), (6, 6), (0, 6))), (0,))
        job = (6, (frame, ("b", (SQUARE,), (0,))))
        for x, y, holds in ((0, 2, True), (4, 2, True), (5, 2, False), (1, 1, False), (1, 3, False), (0, 0, False)):
            self.assertIs(is_laying(job, (6, 1), ((0, (0, 1), (0, 1)), (0, (x, 1), (y, 1)))), holds)

    def test_any_placements(self):
        maker = oracle.Maker(20)
        seen = {True: 0, False: 0}
        for _ in range(400):
            pieces = tuple((name, parts, turns[:1]) for name, parts, turns in maker.pieces())
            width = maker.random.randint(1, 30)
            value = tuple(maker.placement(piece, 0, 25) for piece in pieces)
            length = maker.fraction(10, 40)
            holds = oracle.is_laying((width, pieces), length, value)
            seen[holds] += 1
            self.assertIs(is_laying((width, pieces), length, value), holds)
        self.assertGreater(min(seen.values()), 20)

    def test_fillings_are_layings(self):
        maker = oracle.Maker(21)
        for _ in range(60):
            job = (maker.random.randint(8, 30), tuple((n, p, t[:1]) for n, p, t in maker.pieces()))
            value = filled(job)
            if value is not None:
                length = length_of(job, value)
                self.assertIs(is_laying(job, length, value), True)
                shorter = oracle.pair(oracle.number(length) - Fraction(1, 10 ** 20))
                self.assertIs(is_laying(job, shorter, value), False)


if __name__ == "__main__":
    unittest.main()
