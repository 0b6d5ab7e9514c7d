"""Points 11 and 34 to 36: sheets, and what they answer after any sequence of calls."""

import unittest
from random import Random

from snuglay.errors import BadValue, LayError, NoPiece, TakenName, TooMany
from snuglay.least import laying, least
from snuglay.places import filled, first_place
from snuglay.shapes import is_job, is_laying
from snuglay.sheets import Sheet
from tests import oracle
from tests.samples import (BAD_NAMES, BAD_PIECES, BAD_WIDTHS, BLOCK, DOC_FILLED, DOC_JOB, KITE, PAIR, SQUARE, WEDGE, deep,
                           listed, mixed, spoiled)
from tests.test_values import is_plain

LONG = [[0] * 5000, [[]] * 4999, "a" * 20000, deep(20), "\n", ("a", "b"), "width"]


def sheet_of(job):
    sheet = Sheet(job[0])
    for piece in job[1]:
        sheet.put(piece)
    return sheet


def named(name, *turns, parts=(SQUARE,)):
    return (name, parts, turns or (0,))


class Calls(unittest.TestCase):
    """Points 34 and 35."""

    def assert_refused(self, error, call, *values, **told):
        with self.assertRaises(error) as caught:
            call(*values)
        self.assertIs(type(caught.exception), error)
        for name, value in told.items():
            self.assertIs(getattr(caught.exception, name), value)

    def test_a_new_sheet(self):
        for width in (1, 2, 99, 100):
            sheet = Sheet(width)
            self.assertEqual(sheet.job(), (width, ()))
            self.assertEqual(sheet.names(), ())
            self.assertEqual(sheet.least(), (0, 1))
            self.assertEqual(sheet.laying(), ())
            self.assertEqual(sheet.filled(), ())
            self.assertEqual(len(sheet), 0)
        self.assertEqual(Sheet(width=7).job(), (7, ()))
        for wrong in BAD_WIDTHS + LONG:
            self.assert_refused(BadValue, Sheet, wrong, at=0)

    def test_the_documents_job(self):
        sheet = sheet_of(DOC_JOB)
        self.assertEqual(sheet.job(), DOC_JOB)
        self.assertEqual(sheet.names(), ("a", "b", "c"))
        self.assertEqual(sheet.least(), (4, 1))
        self.assertEqual(sheet.filled(), DOC_FILLED)
        self.assertIs(is_laying(DOC_JOB, (4, 1), sheet.laying()), True)
        self.assertEqual(len(sheet), 3)
        self.assertEqual(sheet.room(named("a")), (0, (4, 1), (0, 1)))

    def test_put_adds_behind(self):
        sheet = Sheet(9)
        for count, name in enumerate(("b", "a", "zzzzzzzz", "c"), 1):
            self.assertIsNone(sheet.put(piece=named(name)))
            self.assertEqual(sheet.names(), ("b", "a", "zzzzzzzz", "c")[:count])
            self.assertEqual(len(sheet), count)

    def test_put_refuses_what_is_no_piece(self):
        sheet = sheet_of(DOC_JOB)
        for wrong in BAD_PIECES + LONG + list(spoiled(PAIR)):
            self.assert_refused(BadValue, sheet.put, wrong, at=0)
            self.assertEqual(sheet.job(), DOC_JOB)

    def test_put_refuses_taken_names(self):
        sheet = sheet_of(DOC_JOB)
        for name in "abc":
            word = "".join([name])
            self.assert_refused(TakenName, sheet.put, named(word, parts=(KITE,)), name=word)
        self.assertEqual(sheet.job(), DOC_JOB)
        # a name that is taken goes before too many, what is no piece before both
        full = sheet_of((9, tuple(named(name) for name in "abcd")))
        self.assert_refused(TakenName, full.put, named("d"), name="d")
        self.assert_refused(TooMany, full.put, named("e"))
        self.assert_refused(BadValue, full.put, named("d", 1, 0), at=0)
        self.assert_refused(BadValue, full.put, named("E"), at=0)

    def test_too_many(self):
        two, three = (SQUARE, WEDGE), (SQUARE, WEDGE, KITE)
        for pieces, more, fits in (
                ([named(n) for n in "abc"], named("d"), True), ([named(n) for n in "abcd"], named("e"), False),
                ([named("a", parts=three)], named("b"), True), ([named("a", parts=three)], named("b", parts=two), False),
                ([named("a", parts=two)], named("b", parts=two), True), ([named("a", parts=two)], named("b", parts=three), False),
                ([named("a", parts=three), named("b")], named("c"), False),
                ([named("a", parts=two), named("b")], named("c"), True),
                ([named("a", 0, 1)], named("b", 2, 3), True), ([named("a", 0, 1)], named("b", 1, 2, 3), False),
                ([named("a", 0, 1, 2, 3)], named("b", 3), True), ([named("a", 0, 1, 2, 3)], named("b", 0, 1), False),
                ([named("a", 0, 1, 2)], named("b", 0, 1), False), ([named("a", 0, 1, 2)], named("b", 1), True),
                ([named("a", 0, 2), named("b", 0, 2)], named("c", 1, 3), False),
                ([], named("a", 0, 1, 2, 3, parts=three), True)):
            sheet = sheet_of((5, pieces))
            before = sheet.job()
            if fits:
                self.assertIsNone(sheet.put(more))
                self.assertEqual(sheet.job(), (5, tuple(pieces) + (more,)))
                self.assertIs(is_job(sheet.job()), True)
            else:
                self.assert_refused(TooMany, sheet.put, more)
                self.assertEqual(sheet.job(), before)

    def test_take_and_first(self):
        sheet = sheet_of((9, tuple(named(name) for name in "abcd")))
        self.assertIsNone(sheet.first("c"))
        self.assertEqual(sheet.names(), ("c", "a", "b", "d"))
        self.assertIsNone(sheet.first(name="c"))
        self.assertEqual(sheet.names(), ("c", "a", "b", "d"))
        self.assertIsNone(sheet.take("a"))
        self.assertEqual(sheet.names(), ("c", "b", "d"))
        sheet.first("d")
        self.assertIsNone(sheet.take(name="b"))
        self.assertEqual(sheet.names(), ("d", "c"))
        sheet.put(named("a", parts=(KITE,)))
        self.assertEqual(sheet.job(), (9, (named("d"), named("c"), named("a", parts=(KITE,)))))
        for name in "dca":
            sheet.take(name)
        self.assertEqual(sheet.job(), (9, ()))

    def test_names_that_there_are_not(self):
        for sheet in (sheet_of(DOC_JOB), Sheet(3)):
            before = sheet.job()
            for wrong in BAD_NAMES + LONG + ["d", "abc", "aa", ("a",), ["a"], 0, None, False, BLOCK]:
                for call in (sheet.take, sheet.first):
                    self.assert_refused(NoPiece, call, wrong, name=wrong)
                self.assertIs(wrong in sheet, False)
            self.assertEqual(sheet.job(), before)

    def test_widen(self):
        sheet = sheet_of(DOC_JOB)
        for width, length in ((4, (2, 1)), (1, None), (100, (2, 1)), (2, (4, 1))):
            self.assertIsNone(sheet.widen(width))
            self.assertEqual(sheet.job(), (width, DOC_JOB[1]))
            self.assertEqual(sheet.least(), length)
        self.assertIsNone(sheet.widen(width=3))
        for wrong in BAD_WIDTHS + LONG:
            self.assert_refused(BadValue, sheet.widen, wrong, at=0)
            self.assertEqual(sheet.job(), (3, DOC_JOB[1]))

    def test_too_wide_pieces(self):
        sheet = sheet_of((1, DOC_JOB[1]))
        self.assertIsNone(sheet.least())
        self.assertIsNone(sheet.laying())
        self.assertIsNone(sheet.filled())
        self.assertIsNone(sheet.room(named("x", parts=(((0, 0), (1, 0), (0, 1)),))))

    def test_room(self):
        self.assertEqual(Sheet(2).room(BLOCK), (0, (0, 1), (0, 1)))
        self.assertIsNone(Sheet(1).room(BLOCK))
        full = sheet_of((5, tuple(named(name) for name in "abcd")))
        self.assertEqual(full.room(named("e")), (0, (4, 1), (0, 1)))
        self.assertEqual(full.room(named("a", 1, parts=(SQUARE, WEDGE, KITE)))[0], 1)
        self.assertEqual(full.room(piece=named("long", 0, 1, 2, 3, parts=(((0, 0), (9, 0), (9, 1), (0, 1)),))), (0, (0, 1), (4, 1)))
        self.assertIsNone(full.room(named("e", parts=(((0, 0), (1, 0), (1, 6), (0, 6)),))))
        for wrong in BAD_PIECES + LONG:
            self.assert_refused(BadValue, full.room, wrong, at=0)
            self.assert_refused(BadValue, sheet_of((1, DOC_JOB[1])).room, wrong, at=0)
        self.assertEqual(full.names(), ("a", "b", "c", "d"))

    def test_answers_are_those_of_the_functions(self):
        maker = oracle.Maker(51)
        for _ in range(30):
            width, pieces = maker.random.randint(3, 12), maker.pieces(1)
            sheet = sheet_of((width, pieces))
            new = maker.piece("new", 2, 4)
            self.assertEqual(sheet.least(), least((width, pieces)))
            self.assertEqual(sheet.laying(), laying((width, pieces)))
            self.assertEqual(sheet.filled(), filled((width, pieces)))
            found = sheet.filled()
            if found is None:
                self.assertIsNone(sheet.room(new))
            else:
                self.assertEqual(sheet.room(new), first_place(width, tuple(zip(pieces, found)), new))


class Values(unittest.TestCase):
    """Points 13 and 36."""

    def test_results_are_plain(self):
        for form in (listed, mixed):
            sheet = sheet_of((2, [form(piece) for piece in DOC_JOB[1]]))
            self.assertEqual(sheet.job(), DOC_JOB)
            for answer in (sheet.job(), sheet.names(), sheet.least(), sheet.laying(), sheet.filled(), sheet.room(form(BLOCK))):
                self.assertTrue(is_plain(answer))
            self.assertEqual(sheet, sheet_of(DOC_JOB))

    def test_lists_that_are_changed_later_have_no_effect(self):
        piece = listed(PAIR)
        sheet = sheet_of((9, [piece]))
        piece[0] = "x"
        piece[1][0][0][0] = -1
        piece[1].clear()
        piece[2].append(3)
        self.assertEqual(sheet.job(), (9, (PAIR,)))

    def test_len_and_in(self):
        sheet = sheet_of(DOC_JOB)
        self.assertEqual(len(sheet), 3)
        for name in "abc":
            self.assertIs(name in sheet, True)
        for value in ("d", "", "ab", 0, None, True, ("a",), ["a"], BLOCK, [], sheet, 10 ** 30):
            self.assertIs(value in sheet, False)
        sheet.take("b")
        self.assertEqual(len(sheet), 2)
        self.assertIs("b" in sheet, False)

    def test_equal_sheets(self):
        one, other = sheet_of(DOC_JOB), sheet_of(DOC_JOB)
        self.assertTrue(one == other)
        self.assertFalse(one != other)
        other.widen(3)
        self.assertFalse(one == other)
        other.widen(2)
        self.assertTrue(one == other)
        other.first("b")
        self.assertFalse(one == other)
        other.first("a")
        self.assertTrue(one == other)
        other.take("c")
        self.assertFalse(one == other)
        other.put(("c", (WEDGE,), (0, 1)))
        self.assertFalse(one == other)
        self.assertTrue(Sheet(4) == Sheet(4))
        self.assertTrue(Sheet(4) != Sheet(5))

    def test_a_sheet_equals_nothing_else(self):
        sheet = sheet_of(DOC_JOB)
        for value in (DOC_JOB, list(DOC_JOB), 2, None, True, "a", (), sheet.names()):
            self.assertIs(sheet == value, False)
            self.assertIs(value == sheet, False)
            self.assertIs(sheet != value, True)
        self.assertIs(Sheet(1) == 1, False)
        self.assertIs(Sheet(1) == (1, ()), False)

    def test_copies_change_independently(self):
        sheet = sheet_of(DOC_JOB)
        other = sheet.copy()
        self.assertIs(type(other), Sheet)
        self.assertTrue(other == sheet and other is not sheet)
        other.take("a")
        other.widen(5)
        self.assertEqual(sheet.job(), DOC_JOB)
        sheet.first("c")
        sheet.take("b")
        self.assertEqual(other.job(), (5, DOC_JOB[1][1:]))
        self.assertEqual(Sheet(8).copy().job(), (8, ()))


class Sequences(unittest.TestCase):
    """Point 11: any calls, refused ones among them, against a plain list of pieces."""

    def apply(self, width, pieces, call, value):
        """What a call must do: the new width and pieces, and the error."""
        names = [piece[0] for piece in pieces]
        if call == "put":
            if value[0] in names:
                return width, pieces, TakenName
            if not is_job((1, pieces + [value])):
                return width, pieces, TooMany
            return width, pieces + [value], None
        if call == "widen":
            return (value, pieces, None) if 1 <= value <= 100 else (width, pieces, BadValue)
        if value not in names:
            return width, pieces, NoPiece
        own, others = [p for p in pieces if p[0] == value], [p for p in pieces if p[0] != value]
        return width, (others if call == "take" else own + others), None

    def test_any_calls(self):
        random, maker = Random(52), oracle.Maker(52)
        errors = set()
        for _ in range(25):
            width, pieces = random.randint(3, 10), []
            sheet = Sheet(width)
            for _ in range(30):
                call = random.choice(("put", "put", "put", "take", "first", "widen"))
                value = random.choice(("a", "b", "c", "d", "e"))
                if call == "put":
                    value = maker.piece(value, random.choice((1, 1, 2)), 3, random.choice((1, 2, 4)))
                if call == "widen":
                    value = random.choice((0, 3, 5, 8, 101, -2))
                width, pieces, error = self.apply(width, pieces, call, value)
                try:
                    self.assertIsNone(getattr(sheet, call)(value))
                    self.assertIsNone(error)
                except LayError as e:
                    self.assertIs(type(e), error)
                errors.add(error)
                self.assertEqual(sheet.job(), (width, tuple(pieces)))
            fresh = sheet_of((width, pieces))
            self.assertTrue(sheet == fresh and fresh == sheet.copy())
            self.assertEqual([sheet.least(), sheet.laying(), sheet.filled(), sheet.names(), len(sheet), sheet.room(BLOCK)],
                             [fresh.least(), fresh.laying(), fresh.filled(), fresh.names(), len(fresh), fresh.room(BLOCK)])
        self.assertEqual(errors, {None, BadValue, TakenName, TooMany, NoPiece})


if __name__ == "__main__":
    unittest.main()
