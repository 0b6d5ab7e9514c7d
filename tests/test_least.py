"""Points 1, 2, 9, 10 and 28 to 30: least lengths and layings of these lengths."""

import unittest
from fractions import Fraction
from itertools import combinations, permutations

from snuglay.errors import BadValue
from snuglay.least import beside, laying, least
from snuglay.places import filled, length_of
from snuglay.shapes import extent, is_job, is_laying
from tests import least_oracle, oracle
from tests.oracle import number, pair
from tests.samples import BLOCK, DOC_JOB, KITE, SQUARE, WEDGE

# an 8 x 6 box cut into four parts
CUT = (((0, 0), (5, 0), (4, 2), (0, 3)), ((0, 3), (4, 2), (2, 6), (0, 6)), ((3, 4), (5, 0), (8, 0), (8, 1)),
       ((2, 6), (3, 4), (8, 1), (8, 6)))
TRAPEZE = ((0, 0), (4, 0), (3, 3), (0, 3))
FIVE = ((-14, 1), (-1, -15), (8, -4), (15, 6), (-6, 15))
HOUSE = ((-7, -3), (4, -6), (9, 0), (3, 8), (-5, 5))


def box(wide, high):
    return ((0, 0), (wide, 0), (wide, high), (0, high))


def job(width, *parts, turns=None):
    """A job with one piece for each part, or tuple of parts, all in turn 0 unless turns are told."""
    pieces = []
    for at, part in enumerate(parts):
        told = part if isinstance(part[0][0], tuple) else (part,)
        pieces.append(("abcd"[at], told, (turns or {}).get(at, (0,))))
    return (width, tuple(pieces))


def order(length):
    """A key for lengths, in which None is the greatest."""
    return (length is None, number(length) if length else 0)


def drawn(maker, low=3, high=16):
    """A job with any pieces, some of which may be too wide."""
    while True:
        found = (maker.random.randint(low, high), maker.pieces(2))
        if is_job(found):
            return found


class KnownLengths(unittest.TestCase):
    """Points 1, 2, 28 and 29."""

    def check(self, told, length):
        self.assertTrue(is_job(told), told)
        self.assertEqual(least(told), length)
        value = laying(told)
        self.assertEqual(value is None, length is None)
        if length is not None:
            self.assertIs(is_laying(told, length, value), True)
            self.assertTrue(oracle.is_laying(told, length, value))
            self.assertEqual(length_of(told, value), length)

    def test_the_documents_job(self):
        self.check(DOC_JOB, (4, 1))
        self.check((3, DOC_JOB[1]), least_oracle.least((3, DOC_JOB[1])))
        self.check((4, DOC_JOB[1]), (2, 1))
        self.check((1, DOC_JOB[1]), None)

    def test_one_piece(self):
        self.check(job(2, SQUARE), (2, 1))
        self.check(job(100, KITE), (5, 1))
        self.check(job(6, KITE), (5, 1))
        self.check(job(5, KITE), None)
        self.check(job(5, KITE, turns={0: (0, 1)}), (6, 1))
        self.check(job(100, ((-40, -40), (40, -40), (40, 40), (-40, 40))), (80, 1))
        self.check(job(79, ((-40, -40), (40, -40), (40, 40), (-40, 40)), turns={0: (0, 1, 2, 3)}), None)
        self.check(job(3, (box(1, 1), ((5, 2), (9, 2), (9, 3), (5, 3)))), (9, 1))

    def test_just_as_wide_as_the_sheet_and_one_wider(self):
        for turns, length in (((0,), (2, 1)), ((0, 1), (2, 1)), ((1, 3), (5, 1))):
            self.check(job(5, box(2, 5), turns={0: turns}), length)
        for turns, length in (((0,), None), ((0, 2), None), ((0, 1), (5, 1)), ((1,), (5, 1))):
            self.check(job(4, box(2, 5), turns={0: turns}), length)
        self.check(job(4, box(1, 1), box(2, 5)), None)
        self.check(job(4, box(2, 5), box(1, 1)), None)
        self.check(job(1, box(1, 1)), (1, 1))
        self.check(job(1, box(1, 2)), None)

    def test_boxes_as_wide_as_the_sheet_lie_in_a_row(self):
        self.check(job(7, box(3, 7), box(4, 7), box(5, 7), box(6, 7)), (18, 1))
        self.check(job(7, box(3, 4), box(4, 5), box(5, 6), box(6, 7)), (18, 1))
        self.check(job(1, box(40, 1), box(40, 1), box(40, 1), box(40, 1)), (160, 1))
        self.check(job(7, box(3, 4), box(4, 3), box(5, 6), box(6, 7)), (15, 1))

    def test_boxes_above_one_another(self):
        self.check(job(6, box(3, 3), box(3, 3), box(3, 3), box(3, 3)), (6, 1))
        self.check(job(5, box(3, 3), box(3, 3), box(3, 3), box(3, 3)), (12, 1))
        self.check(job(100, box(7, 25), box(8, 25), box(9, 25), box(10, 25)), (10, 1))
        self.check(job(99, box(7, 25), box(8, 25), box(9, 25), box(10, 25)), (15, 1))
        self.check(job(4, box(4, 1), box(2, 3), box(2, 3)), (4, 1))
        self.check(job(5, box(3, 2), box(2, 3), box(3, 2), box(2, 3)), (5, 1))

    def test_pieces_of_a_rectangle_go_together_again(self):
        self.check(job(6, WEDGE, ((0, 2), (2, 0), (2, 2)), SQUARE, box(2, 4)), (4, 1))
        self.check(job(4, ((0, 0), (4, 0), (0, 4)), ((0, 0), (4, -4), (4, 0))), (4, 1))
        self.check(job(3, TRAPEZE, TRAPEZE, turns={1: (2,)}), (7, 1))
        self.check(job(3, TRAPEZE, TRAPEZE, turns={1: (0, 2)}), (7, 1))
        self.check(job(3, TRAPEZE, TRAPEZE), (8, 1))
        self.check(job(6, *CUT), (8, 1))

    def test_turns_that_shorten_the_sheet(self):
        for turns, length in (((0,), (5, 1)), ((1,), (4, 1)), ((0, 1), (4, 1)), ((0, 2), (5, 1)), ((0, 1, 2, 3), (4, 1))):
            self.check(job(3, box(3, 3), box(2, 1), turns={1: turns}), length)
        for turns in ((0,), (1,), (0, 1), (0, 1, 2, 3)):
            self.check(job(1, box(4, 1), turns={0: turns}), (4, 1) if 0 in turns else None)
        self.check(job(2, WEDGE, WEDGE), least_oracle.least(job(2, WEDGE, WEDGE)))
        self.check(job(2, WEDGE, WEDGE, turns={1: (2,)}), (2, 1))
        self.check(job(4, box(4, 2), box(2, 4), turns={0: (0, 1), 1: (0, 1)}), (4, 1))

    def test_fractions(self):
        slanted = ((0, 0), (7, 3), (2, 5))
        for width in range(5, 13):
            told = job(width, slanted, KITE)
            self.check(told, least_oracle.least(told))
        thin = ((0, 0), (3, -1), (2, 2))
        for told, length in ((job(6, slanted, thin, thin), (225, 29)), (job(6, thin, thin, thin), (21, 4)),
                             (job(5, slanted, slanted), (64, 5)), (job(6, slanted, slanted), (62, 5))):
            self.assertEqual(least_oracle.least(told), length)
            self.check(told, length)

    def test_parts_may_interlock(self):
        comb = (box(1, 5), ((1, 0), (4, 0), (4, 1), (1, 1)), ((1, 4), (4, 4), (4, 5), (1, 5)))
        self.check(job(5, comb, box(3, 3)), (4, 1))
        self.check(job(5, comb, box(4, 3)), (5, 1))
        self.check(job(5, comb, box(3, 4)), (7, 1))
        self.check(job(8, comb, box(3, 4)), (7, 1))
        self.check(job(9, comb, box(3, 4)), (4, 1))
        hook = (((0, 0), (3, 0), (3, 1), (0, 1)), ((0, 1), (1, 1), (1, 3), (0, 3)))
        self.check(job(3, hook, hook), (6, 1))
        self.check(job(3, hook, hook, turns={1: (2,)}), (4, 1))
        self.check(job(3, hook, hook, turns={1: (0, 1, 2, 3)}), (4, 1))

    def test_parts_of_a_piece_may_overlap_and_lie_apart(self):
        self.check(job(4, (SQUARE, ((1, 1), (3, 1), (3, 3), (1, 3)))), (3, 1))
        apart = (SQUARE, ((6, 0), (8, 0), (8, 2), (6, 2)))
        self.check(job(2, apart, box(4, 2)), (8, 1))
        self.check(job(2, apart, box(5, 2)), (13, 1))
        self.check(job(3, apart, box(5, 1)), (8, 1))
        self.check(job(2, apart, apart), (10, 1))
        self.check(job(2, apart, (box(5, 2), ((6, 0), (8, 0), (8, 2), (6, 2)))), (16, 1))
        self.check(job(2, (SQUARE, ((4, 0), (6, 0), (6, 2), (4, 2))), (SQUARE, ((4, 0), (6, 0), (6, 2), (4, 2)))), (8, 1))

    def test_places_of_corners_do_not_matter(self):
        far = ((30, -40), (33, -40), (33, -38), (30, -38))
        for width in (2, 4, 5):
            self.check(job(width, far, SQUARE, KITE if width > 5 else SQUARE), least(job(width, box(3, 2), SQUARE, SQUARE)))


class GreatJobs(unittest.TestCase):
    """Point 13: no job is refused for its size."""

    def check(self, told):
        self.assertTrue(is_job(told))
        length, value = least(told), laying(told)
        self.assertTrue(oracle.is_laying(told, length, value))
        self.assertEqual(pair(max(oracle.ends(oracle.shapes_of(piece, placement))[1]
                                  for piece, placement in zip(told[1], value))), length)

    def test_four_pieces_of_five_corners(self):
        for width in (30, 47, 65, 100):
            self.check(job(width, HOUSE, FIVE, HOUSE, FIVE))
        self.check(job(40, HOUSE, FIVE, HOUSE, FIVE, turns={0: (0, 1), 1: (1, 3)}))
        self.check(job(33, FIVE, HOUSE, FIVE, HOUSE, turns={1: (0, 1, 2, 3)}))

    def test_four_times_the_same_piece(self):
        for width in (30, 55, 90):
            self.check(job(width, FIVE, FIVE, FIVE, FIVE))

    def test_three_parts_and_four_turns(self):
        self.check(job(30, (HOUSE, FIVE, KITE), HOUSE, turns={1: (0, 1, 2, 3)}))
        self.check(job(34, (HOUSE, FIVE), (FIVE, KITE), turns={0: (0, 2), 1: (1, 2)}))
        self.check(job(100, (HOUSE, FIVE, KITE), HOUSE, turns={0: (0, 1, 2, 3)}))

    def test_widest_pieces(self):
        great = ((-40, -7), (-3, -40), (40, -22), (31, 40), (-29, 36))
        self.check(job(100, great, HOUSE, great, FIVE, turns={0: (0, 3), 2: (0, 2)}))
        self.check(job(80, great, great, great))


class AnyJobs(unittest.TestCase):
    """Points 1, 2, 9, 10 and 28 to 30 over drawn jobs."""

    def test_least_lengths_of_few_half_planes(self):
        maker = oracle.Maker(31)
        many, none = 0, 0
        while many < 60:
            told = drawn(maker)
            planes = 1
            for (_, parts, _), (_, others, _) in combinations(told[1], 2):
                for one in parts:
                    for other in others:
                        planes *= len(one) + len(other)
            if planes < 600:
                length = least_oracle.least(told)
                self.assertEqual(least(told), length, told)
                many += 1
                none += length is None
        self.assertTrue(5 < none < 40, none)

    def test_layings(self):
        maker = oracle.Maker(32)
        for _ in range(120):
            told = drawn(maker)
            length, value = least(told), laying(told)
            narrow = all(any(extent(piece, turn)[3] - extent(piece, turn)[2] <= told[0] for turn in piece[2])
                         for piece in told[1])
            self.assertIs(length is not None, narrow)
            self.assertIs(value is not None, narrow)
            if narrow:
                self.assertIs(is_laying(told, length, value), True)
                self.assertTrue(oracle.is_laying(told, length, value))
                shorter = pair(number(length) * Fraction(10 ** 9 - 1, 10 ** 9))
                self.assertIs(is_laying(told, shorter, value), False)

    def test_filled_sheets_are_not_shorter(self):
        maker = oracle.Maker(33)
        reached = 0
        for _ in range(80):
            told = drawn(maker)
            value = filled(told)
            self.assertEqual(value is None, least(told) is None)
            if value is not None:
                self.assertGreaterEqual(number(length_of(told, value)), number(least(told)))
                reached += length_of(told, value) == least(told)
        self.assertTrue(10 < reached < 80, reached)

    def test_the_sequence_of_pieces_does_not_matter(self):
        maker = oracle.Maker(34)
        for _ in range(15):
            width, pieces = drawn(maker, 6, 12)
            lengths = {least((width, chosen)) for chosen in permutations(pieces)}
            self.assertEqual(len(lengths), 1, lengths)

    def test_fewer_pieces_more_turns_and_wider_sheets(self):
        maker = oracle.Maker(35)
        for _ in range(40):
            width, pieces = drawn(maker, 4, 12)
            length = least((width, pieces))
            for at in range(len(pieces)):
                others = pieces[:at] + pieces[at + 1:]
                if others:
                    self.assertLessEqual(order(least((width, others))), order(length))
                name, parts, turns = pieces[at]
                more = (width, pieces[:at] + ((name, parts, tuple(sorted({*turns, 3}))),) + pieces[at + 1:])
                if is_job(more):
                    self.assertLessEqual(order(least(more)), order(length))
            for wider in (width + 1, 2 * width, 100):
                self.assertLessEqual(order(least((wider, pieces))), order(length))
            own = [least((width, (piece,))) for piece in pieces]
            if None not in own:
                self.assertLessEqual(number(length), sum(number(one) for one in own))
                self.assertGreaterEqual(number(length), max(number(one) for one in own))

    def test_two_pieces_alone(self):
        maker = oracle.Maker(36)
        for _ in range(40):
            width, pieces = drawn(maker, 4, 12)
            found = beside((width, pieces))
            self.assertEqual([(i, j) for i, j, length in found], list(combinations(range(len(pieces)), 2)))
            for i, j, length in found:
                self.assertEqual(length, least((width, (pieces[i], pieces[j]))))
                self.assertLessEqual(order(length), order(least((width, pieces))))

    def test_beside_of_single_pieces_and_wide_ones(self):
        self.assertEqual(beside((2, (BLOCK,))), ())
        self.assertEqual(beside((1, (BLOCK,))), ())
        self.assertEqual(beside(DOC_JOB), ((0, 1, (4, 1)), (0, 2, (4, 1)), (1, 2, (2, 1))))
        told = job(4, box(2, 5), box(1, 1), box(3, 3), box(1, 4))
        self.assertEqual(beside(told), ((0, 1, None), (0, 2, None), (0, 3, None), (1, 2, (3, 1)), (1, 3, (2, 1)), (2, 3, (4, 1))))
        self.assertIsNone(least(told))

    def test_wrong_jobs(self):
        for function in (least, laying, beside):
            for wrong in (None, (), (0, (BLOCK,)), (101, (BLOCK,)), (2, ()), (2, (BLOCK, BLOCK)), (True, (BLOCK,))):
                with self.assertRaises(BadValue) as caught:
                    function(wrong)
                self.assertEqual(caught.exception.at, 0)

    def test_the_same_again(self):
        told = job(33, HOUSE, FIVE, KITE, WEDGE, turns={1: (0, 1)})
        self.assertEqual(laying(told), laying(told))
        self.assertEqual(least(told), least(told))


if __name__ == "__main__":
    unittest.main()
