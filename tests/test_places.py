"""Points 25 to 27 and 7 to 9: first places, free spans, filled sheets."""

import unittest
from fractions import Fraction

from snuglay.places import filled, first_place, free_spans, length_of
from snuglay.shapes import extent, is_job, is_laying, is_piece
from tests import oracle
from tests.oracle import number, pair
from tests.samples import BLOCK, DOC_FILLED, DOC_JOB, KITE, SQUARE, WEDGE

TINY = 10 ** 40


def box(wide, high):
    return ((0, 0), (wide, 0), (wide, high), (0, high))


def piece(*parts, turns=(0,)):
    return ("p", parts, turns)


def at(x, y, turn=0):
    return (turn, pair(x), pair(y))


class FirstPlaces(unittest.TestCase):
    """Points 7 and 25."""

    def test_nothing_laid(self):
        self.assertEqual(first_place(2, (), BLOCK), (0, (0, 1), (0, 1)))
        self.assertEqual(first_place(100, [], piece(KITE)), (0, (2, 1), (3, 1)))
        self.assertEqual(first_place(9, (), piece(((-40, -40), (-38, -40), (-38, -38)))), (0, (40, 1), (40, 1)))
        self.assertEqual(first_place(9, (), piece(((37, 36), (40, 40), (38, 39)))), (0, (-37, 1), (-36, 1)))

    def test_just_as_wide_as_the_sheet_and_one_wider(self):
        self.assertEqual(first_place(5, (), piece(box(1, 5))), (0, (0, 1), (0, 1)))
        self.assertIsNone(first_place(4, (), piece(box(1, 5))))
        self.assertEqual(first_place(4, (), piece(box(1, 5), turns=(0, 1))), (1, (5, 1), (0, 1)))
        self.assertIsNone(first_place(4, (), piece(box(5, 5), turns=(0, 1, 2, 3))))
        self.assertIsNone(first_place(1, ((BLOCK, at(0, 0)),), BLOCK))
        self.assertEqual(first_place(1, ((BLOCK, at(0, 0)),), piece(box(2, 1))), (0, (2, 1), (0, 1)))

    def test_widths_1_and_100(self):
        bar = ((0, 0), (40, 0), (40, 1), (0, 1))
        self.assertEqual(first_place(1, ((piece(bar), at(0, 0)),), piece(bar)), at(40, 0))
        wall = piece(((-1, -40), (0, -40), (0, 40), (-1, 40)))
        self.assertEqual(first_place(100, ((wall, at(1, 40)),), piece(box(1, 20))), at(0, 80))
        self.assertEqual(first_place(100, ((wall, at(1, 40)),), piece(box(1, 21))), at(1, 0))
        self.assertEqual(first_place(80, ((wall, at(1, 40)),), wall), at(2, 40))

    def test_the_least_left_end_goes_first(self):
        # turn 0 fits lower, but only further to the right; turn 1 fits on the left, but higher
        laid = ((piece(box(3, 3)), at(0, 0)),)
        thin = piece(box(4, 1), turns=(0, 1))
        self.assertEqual(first_place(8, laid, thin), (0, (0, 1), (3, 1)))
        self.assertEqual(first_place(3, laid, thin), (0, (3, 1), (0, 1)))
        laid = ((piece(box(3, 3)), at(0, 0)), (piece(box(3, 2)), at(1, 3)))
        self.assertEqual(first_place(7, laid, piece(box(1, 4), turns=(0, 1))), (0, (0, 1), (3, 1)))
        self.assertEqual(first_place(6, laid, piece(box(1, 4), turns=(0, 1))), (1, (4, 1), (5, 1)))
        self.assertEqual(first_place(6, laid, piece(box(1, 4))), (0, (4, 1), (0, 1)))
        self.assertEqual(first_place(5, laid, piece(box(1, 2), turns=(0, 1))), (0, (0, 1), (3, 1)))

    def test_then_the_least_low_end_then_the_least_turn(self):
        laid = ((piece(box(2, 2)), at(0, 0)), (piece(box(3, 1)), at(2, 2)))
        # with turn 1 (2 wide) it lies at left end 0 on the laid ones at 2, as with turn 0
        self.assertEqual(first_place(9, laid, piece(box(1, 2), turns=(0, 1))), (0, (0, 1), (2, 1)))
        # turn 0 would lie higher, on the second laid piece
        self.assertEqual(first_place(9, laid, piece(box(3, 1), turns=(0, 1))), (1, (1, 1), (2, 1)))
        for turns in ((0, 1, 2, 3), (1, 2, 3), (2, 3), (3,)):
            self.assertEqual(first_place(9, laid, piece(SQUARE, turns=turns))[0], turns[0])

    def test_ends_decide_not_places(self):
        # in turn 1 the place is at (2, 0) though its left end is at 0, too
        self.assertEqual(first_place(9, (), piece(SQUARE, turns=(1,))), (1, (2, 1), (0, 1)))
        self.assertEqual(first_place(9, (), piece(SQUARE, turns=(2,))), (2, (2, 1), (2, 1)))

    def test_slopes(self):
        self.assertEqual(first_place(2, ((piece(WEDGE), at(0, 0)),), piece(WEDGE)), at(2, 0))
        self.assertEqual(first_place(2, ((piece(WEDGE), at(0, 0)),), piece(WEDGE, turns=(0, 2))), at(2, 2, 2))
        self.assertEqual(first_place(3, ((piece(WEDGE), at(0, 0)),), piece(WEDGE)), at(1, 1))
        self.assertEqual(first_place(3, ((piece(WEDGE), at(0, 0)),), BLOCK), at(1, 1))
        steep = ((0, 0), (3, 0), (0, 7))
        self.assertEqual(first_place(7, ((piece(steep), at(0, 0)),), piece(box(1, 1))), at(Fraction(3, 7), 6))

    def test_single_places(self):
        walls = (piece(box(4, 3)), at(0, 0)), (piece(box(4, 3)), at(0, 4))
        self.assertEqual(first_place(7, walls, piece(box(2, 1))), at(0, 3))
        self.assertEqual(first_place(7, walls, piece(box(2, 2))), at(4, 0))
        hole = walls + ((piece(box(1, 1)), at(0, 3)), (piece(box(1, 1)), at(3, 3)))
        self.assertEqual(first_place(7, hole, piece(box(2, 1))), at(1, 3))
        self.assertEqual(first_place(7, hole, piece(box(2, 1), turns=(0, 1))), at(1, 3))
        self.assertEqual(first_place(7, hole, piece(box(3, 1))), at(4, 0))

    def test_laid_pieces_anywhere(self):
        same = ((BLOCK, at(0, 0)), (BLOCK, at(0, 0)), (BLOCK, at(1, 1)), (BLOCK, at(-90, 0)))
        self.assertEqual(first_place(3, same, BLOCK), at(3, 0))
        self.assertEqual(first_place(5, same, BLOCK), at(0, 3))
        self.assertEqual(first_place(4, ((BLOCK, at(-1, -1)), (BLOCK, at(-1, 4))), BLOCK), at(0, 1))
        self.assertEqual(first_place(4, ((BLOCK, at(0, -2)), (BLOCK, at(0, 4)), (BLOCK, at(-2, 0))), BLOCK), at(0, 0))
        self.assertEqual(first_place(2, ((BLOCK, at(TINY, 0)),), BLOCK), at(0, 0))
        self.assertEqual(first_place(2, ((BLOCK, at(0, TINY)), (BLOCK, at(0, -TINY))), BLOCK), at(0, 0))
        self.assertEqual(first_place(2, ((BLOCK, at(1, 0)), (BLOCK, at(3, 1)), (BLOCK, at(5, -1))), BLOCK), at(7, 0))

    def test_fractions(self):
        third, seventh = Fraction(1, 3), Fraction(1, 7)
        laid = ((BLOCK, at(third, 0)), (BLOCK, at(seventh, 2)))
        self.assertEqual(first_place(4, laid, BLOCK), at(2 + seventh, 2))
        self.assertEqual(first_place(3, laid, BLOCK), at(2 + third, 0))
        tiny = Fraction(1, TINY)
        self.assertEqual(first_place(4, ((BLOCK, at(0, tiny)),), BLOCK), at(2, 0))
        self.assertEqual(first_place(4, ((BLOCK, at(2 - tiny, 0)),), BLOCK), at(0, 2))
        self.assertEqual(first_place(4, ((BLOCK, at(2, 0)),), BLOCK), at(0, 0))
        self.assertEqual(first_place(5, ((BLOCK, at(tiny, -tiny)),), BLOCK), at(0, 2 - tiny))
        self.assertEqual(first_place(4, ((BLOCK, at(0, 0)), (BLOCK, at(Fraction(TINY - 1, 3), 0))), BLOCK), at(0, 2))

    def test_only_parts_block(self):
        two = piece(box(2, 1), ((0, 3), (2, 3), (2, 4), (0, 4)))
        self.assertEqual(first_place(4, ((two, at(0, 0)),), piece(box(3, 2))), at(0, 1))
        self.assertEqual(first_place(5, ((two, at(0, 0)),), two), at(0, 1))
        self.assertEqual(first_place(4, ((two, at(0, 0)),), two), at(2, 0))

    def check(self, width, laid, new):
        found = first_place(width, laid, new)
        self.assertEqual(found, oracle.first(width, laid, new))
        narrow = any(oracle.top_of(width, new, turn) >= 0 for turn in new[2])
        self.assertIs(found is not None, narrow)
        if narrow:
            self.assertTrue(oracle.is_free(width, laid, new, found))

    def test_any_laid_pieces(self):
        maker = oracle.Maker(7)
        for k in range(80):
            new = maker.piece(most=2, reach=4) if k % 8 == 0 else maker.piece(most=1, reach=4, turns=2)
            higher = maker.random.choice((-1, 0, 0, 1, 2, 4))
            width = max(1, higher + min(-oracle.top_of(0, new, turn) for turn in new[2]))
            self.check(width, maker.laid(-1, width, maker.random.choice((1, 1, 2, 6))), new)

    def test_great_pieces_and_fractions(self):
        maker = oracle.Maker(8)
        new = ("n", (maker.part(38), maker.part(38)), (0, 1, 2, 3))
        laid = []
        for k in range(3):
            other = ("o", (maker.part(38),), (0, 1, 2, 3))
            x, y = Fraction(maker.random.randint(0, TINY), TINY // 80), Fraction(maker.random.randint(-TINY, TINY), TINY // 30)
            laid.append((other, at(x, y, k)))
        self.assertTrue(is_piece(new))
        self.check(90, tuple(laid), new)


class FreeSpans(unittest.TestCase):
    """Points 8 and 26."""

    def test_nothing_laid(self):
        self.assertEqual(free_spans(5, (), BLOCK, 0, (0, 1)), (((0, 1), (3, 1)),))
        self.assertEqual(free_spans(2, (), BLOCK, 0, (TINY, 3)), (((0, 1), (0, 1)),))
        self.assertEqual(free_spans(1, (), BLOCK, 0, (0, 1)), ())
        self.assertEqual(free_spans(6, (), piece(KITE, turns=(0, 3)), 3, (1, TINY)), (((0, 1), (1, 1)),))

    def test_low_ends_are_told_not_places(self):
        low = piece(((-5, -7), (-3, -7), (-3, -5), (-5, -5)), turns=(0, 2))
        for turn in (0, 2):
            self.assertEqual(free_spans(9, ((BLOCK, at(1, 3)),), low, turn, (0, 1)), (((0, 1), (1, 1)), ((5, 1), (7, 1))))

    def test_left_ends_at_the_borders(self):
        laid = ((BLOCK, at(2, 2)),)
        whole, parted = (((0, 1), (4, 1)),), (((0, 1), (0, 1)), ((4, 1), (4, 1)))
        for left, found in (((0, 1), whole), ((1, TINY), parted), ((2, 1), parted), ((399, 100), parted), ((4, 1), whole),
                            ((5, 1), whole)):
            self.assertEqual(free_spans(6, laid, BLOCK, 0, left), found, left)

    def test_single_places_between_blocks(self):
        laid = ((BLOCK, at(0, -2)), (BLOCK, at(0, 2)), (BLOCK, at(0, 6)))
        self.assertEqual(free_spans(8, laid, BLOCK, 0, (1, 1)), (((0, 1), (0, 1)), ((4, 1), (4, 1))))
        self.assertEqual(free_spans(8, laid, piece(box(1, 1)), 0, (1, 1)), (((0, 1), (1, 1)), ((4, 1), (5, 1))))
        self.assertEqual(free_spans(8, laid, piece(box(1, 3)), 0, (1, 1)), ())

    def test_slopes(self):
        laid = ((piece(WEDGE), at(0, 0)),)
        for left, low in (((0, 1), 2), ((1, 2), Fraction(3, 2)), ((1, 1), 1), ((7, 4), Fraction(1, 4)), ((2, 1), 0), ((9, 1), 0)):
            self.assertEqual(free_spans(5, laid, BLOCK, 0, left), ((pair(low), (3, 1)),))
        self.assertEqual(free_spans(5, ((piece(WEDGE), at(0, 3)),), BLOCK, 0, (1, 3)), (((0, 1), (1, 1)),))

    def test_corners_that_touch(self):
        # two wedges tip to tip: where they touch, one low end stays free
        tips = ((piece(((0, 0), (2, 0), (0, 2))), at(0, 0)), (piece(((0, 2), (2, 4), (0, 4))), at(0, 1)))
        diamond = piece(((-1, 0), (0, -1), (1, 0), (0, 1)))
        found = free_spans(5, tips, diamond, 0, (1, 2))
        self.assertEqual(found, oracle.spans(5, tips, diamond, 0, Fraction(1, 2)))
        self.assertEqual(free_spans(5, tips, diamond, 0, (2, 1)), oracle.spans(5, tips, diamond, 0, Fraction(2)))

    def test_any_laid_pieces(self):
        maker = oracle.Maker(26)
        kinds = set()
        for _ in range(250):
            new = maker.piece(reach=maker.random.choice((1, 2, 4)))
            width = maker.random.randint(4, 30)
            laid = maker.laid(-2, min(12, width), maker.random.choice((1, 2, 6)))
            turn = maker.random.choice(new[2])
            left = maker.fraction(0, width, maker.random.choice((1, 2, 6)))
            found = free_spans(width, laid, new, turn, left)
            self.assertEqual(found, oracle.spans(width, laid, new, turn, number(left)))
            kinds.add(len(found))
            kinds.update("single" for low, high in found if low == high)
        self.assertLessEqual({0, 1, 2, 3, "single"}, kinds)

    def test_placements_are_free_just_where_told(self):
        maker = oracle.Maker(27)
        for _ in range(80):
            new = maker.piece(reach=4)
            width = maker.random.randint(6, 16)
            laid = maker.laid(-2, width, 1)
            turn, left = maker.random.choice(new[2]), maker.fraction(0, width, 2)
            spans = free_spans(width, laid, new, turn, left)
            ends = extent(new, turn)
            for low in [Fraction(k, 2) for k in range(-2, 2 * width + 2)] + [number(end) for span in spans for end in span]:
                placement = (turn, pair(number(left) - ends[0]), pair(low - ends[2]))
                told = any(number(span[0]) <= low <= number(span[1]) for span in spans)
                self.assertIs(oracle.is_free(width, laid, new, placement), told)

    def test_the_first_place_begins_a_span(self):
        maker = oracle.Maker(28)
        for _ in range(60):
            new = maker.piece(reach=4)
            width = maker.random.randint(8, 14)
            laid = maker.laid(-1, 8, 2)
            placement = first_place(width, laid, new)
            if placement is not None:
                turn, x, y = placement
                ends = extent(new, turn)
                left = number(x) + ends[0]
                spans = free_spans(width, laid, new, turn, pair(left))
                self.assertEqual(number(spans[0][0]), number(y) + ends[2])
                for other in new[2]:
                    if left > 0:
                        self.assertEqual(free_spans(width, laid, new, other, pair(left * Fraction(TINY - 1, TINY))), ())


class Filled(unittest.TestCase):
    """Points 9 and 27."""

    def test_the_documents_job(self):
        self.assertEqual(filled(DOC_JOB), DOC_FILLED)
        self.assertEqual(length_of(DOC_JOB, DOC_FILLED), (4, 1))

    def test_the_sequence_counts(self):
        thin, thick = ("a", (box(4, 1),), (0,)), ("b", (box(3, 3),), (0,))
        self.assertEqual(filled((4, (thin, thick))), (at(0, 0), at(0, 1)))
        self.assertEqual(filled((4, (thick, thin))), (at(0, 0), at(0, 3)))
        self.assertEqual(filled((3, (thin, thick))), (at(0, 0), at(4, 0)))

    def test_none_if_some_piece_is_too_wide(self):
        high = ("h", (box(1, 3),), (0, 2))
        self.assertIsNone(filled((2, (high,))))
        self.assertIsNone(filled((2, (BLOCK, high))))
        self.assertIsNone(filled((2, (high, BLOCK))))
        self.assertEqual(filled((3, (high, BLOCK))), (at(0, 0), at(1, 0)))
        self.assertEqual(filled((2, (("h", (box(1, 3),), (0, 1)),))), (at(3, 0, 1),))

    def test_each_is_the_first_place_among_those_before(self):
        maker = oracle.Maker(9)
        many = 0
        for _ in range(150):
            pieces = tuple((name, parts, turns[:1 + (k == 0)]) for k, (name, parts, turns) in enumerate(maker.pieces()))
            job = (maker.random.randint(6, 16), pieces)
            self.assertTrue(is_job(job))
            value = filled(job)
            if value is None:
                self.assertTrue(any(first_place(job[0], (), one) is None for one in pieces))
                continue
            many += 1
            self.assertEqual(len(value), len(pieces))
            for k, one in enumerate(pieces):
                self.assertEqual(value[k], first_place(job[0], tuple(zip(pieces[:k], value)), one))
            self.assertIs(is_laying(job, length_of(job, value), value), True)
        self.assertGreater(many, 50)

    def test_limits_of_a_job(self):
        four = tuple((name, (box(40, 40),), (0,)) for name in "abcd")
        self.assertEqual(filled((100, four)), (at(0, 0), at(0, 40), at(40, 0), at(40, 40)))
        turning = (("a", (WEDGE,), (0, 1)), ("b", (WEDGE,), (1, 3)), ("c", (WEDGE,), (2,)), ("d", (WEDGE,), (0,)))
        job = (1, turning)
        self.assertIsNone(filled(job))
        value = filled((2, turning))
        self.assertIs(is_laying((2, turning), length_of((2, turning), value), value), True)


class Lengths(unittest.TestCase):
    """Point 27."""

    def test_the_greatest_right_end(self):
        job = (2, (BLOCK, ("b", (KITE,), (0, 1))))
        self.assertEqual(length_of(job, (at(0, 0), at(0, 0))), (3, 1))
        self.assertEqual(length_of(job, (at(2, 0), at(0, 0))), (4, 1))
        self.assertEqual(length_of(job, (at(0, 0), at(Fraction(1, 3), 99, 1))), (10, 3))
        self.assertEqual(length_of(job, (at(Fraction(5, 7), 0), at(-40, 0, 1))), (19, 7))

    def test_it_may_be_below_0(self):
        job = (2, (BLOCK, ("b", (KITE,), (0, 1))))
        self.assertEqual(length_of(job, (at(-9, 0), at(-9, 0))), (-6, 1))
        self.assertEqual(length_of(job, (at(-2, 0), at(-3, 0))), (0, 1))
        self.assertEqual(length_of((2, (BLOCK,)), ((0, (-TINY, 3), (0, 1)),)), (6 - TINY, 3))

    def test_any_placements(self):
        maker = oracle.Maker(29)
        for _ in range(100):
            pieces = tuple((name, parts, turns[:1]) for name, parts, turns in maker.pieces())
            value = tuple(maker.placement(one, -9, 9) for one in pieces)
            ends = [oracle.ends(oracle.shapes_of(one, placement))[1] for one, placement in zip(pieces, value)]
            self.assertEqual(length_of((50, pieces), value), pair(max(ends)))


if __name__ == "__main__":
    unittest.main()
