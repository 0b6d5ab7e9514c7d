"""Points 12, 37 and 38: texts of jobs, and which line is told of a wrong one."""

import re
import unittest
from random import Random

from snuglay.errors import BadText, BadValue
from snuglay.shapes import is_job, is_piece
from snuglay.texts import parse, printed
from tests import oracle
from tests.samples import BAD_JOBS, DOC_JOB, FIVE_PARTS, KITE, SQUARE, STAR, WEDGE, listed, mixed

DOC_TEXT = """width 2
piece a 0
part 0 0 2 0 2 2 0 2
piece b 0
part 0 0 2 0 0 2
piece c 0 2
part 0 0 2 0 0 2
"""
SQUARE_LINE = "part 0 0 2 0 2 2 0 2\n"
INTEGER = re.compile("-[1-9][0-9]{0,2}|0|[1-9][0-9]{0,2}")


def told(text):
    """The number that BadText tells; None if the text is right."""
    try:
        parse(text)
    except BadText as e:
        return e.at
    return None


def fault(text):
    """The number of the first wrong line, found by growing the job line by line."""
    if not isinstance(text, str):
        return 0
    lines = text.split("\n")
    if lines[-1] == "":
        lines.pop()
    width, pieces = None, []
    for at, line in enumerate(lines):
        words = re.findall("[^ ]+", line)
        if not words:
            continue
        numbers = [int(word) if INTEGER.fullmatch(word) else None for word in words]
        if words[0] == "width":
            if width is not None or len(words) != 2 or numbers[1] is None or not 1 <= numbers[1] <= 100:
                return at
            width = numbers[1]
        elif words[0] == "piece":
            if width is None or (pieces and not pieces[-1][1]) or len(words) < 3:
                return at
            piece = (words[1], [], numbers[2:])
            if not is_piece((words[1], (SQUARE,), numbers[2:])):
                return at
            grown = [(name, (SQUARE,), turns) for name, parts, turns in pieces + [piece]]
            if not is_job((1, grown)):
                return at
            pieces.append(piece)
        elif words[0] == "part":
            if not pieces or len(words) - 1 not in (6, 8, 10) or None in numbers[1:]:
                return at
            pieces[-1][1].append(tuple(zip(numbers[1::2], numbers[2::2])))
            if not is_piece(pieces[-1]) or sum(len(parts) for name, parts, turns in pieces) > 4:
                return at
        else:
            return at
    return None if pieces and pieces[-1][1] else len(lines)


def plain_of(text):
    """A text without needless blanks and lines."""
    lines = [" ".join(word for word in line.split(" ") if word) for line in text.split("\n")]
    return "".join(line + "\n" for line in lines if line)


class Printed(unittest.TestCase):
    """Points 12 and 37."""

    def test_the_documents_job(self):
        self.assertEqual(printed(DOC_JOB), DOC_TEXT)
        self.assertEqual(parse(DOC_TEXT), DOC_JOB)

    def test_numbers(self):
        job = (100, (("abcdefgh", (((-40, -40), (40, -39), (9, 10)), KITE), (0, 1, 2, 3)),))
        text = "width 100\npiece abcdefgh 0 1 2 3\npart -40 -40 40 -39 9 10\npart -2 0 0 -3 3 -1 2 2 0 3\n"
        self.assertEqual(printed(job), text)
        self.assertEqual(parse(text), job)

    def test_lists(self):
        for form in (listed, mixed):
            self.assertEqual(printed(form(DOC_JOB)), DOC_TEXT)

    def test_wrong_jobs(self):
        for wrong in BAD_JOBS + ["a" * 20000, [0] * 5000]:
            with self.assertRaises(BadValue) as caught:
                printed(wrong)
            self.assertEqual(caught.exception.at, 0)

    def test_any_jobs(self):
        maker = oracle.Maker(61)
        for _ in range(150):
            job = (maker.random.randint(1, 100), maker.pieces(2))
            if is_job(job):
                text = printed(job)
                self.assertEqual(parse(text), job)
                self.assertEqual(printed(parse(text)), text)
                self.assertLessEqual(len(text), 5000)


class Parsed(unittest.TestCase):
    """Points 12 and 38."""

    def assert_told(self, text, at):
        self.assertEqual(told(text), at, text)
        self.assertEqual(fault(text), at, text)

    def test_blanks_and_empty_lines(self):
        for text in (DOC_TEXT[:-1], "\n" + DOC_TEXT, DOC_TEXT + "\n", DOC_TEXT + "  ", DOC_TEXT + " \n \n", "   \n\n" + DOC_TEXT,
                     DOC_TEXT.replace(" ", "   "), DOC_TEXT.replace("\n", "  \n  "), DOC_TEXT.replace("\n", "\n\n \n"),
                     "  " + DOC_TEXT[:-1] + "  "):
            self.assertEqual(parse(text), DOC_JOB)
            self.assert_told(text, None)
            self.assertEqual(plain_of(text), DOC_TEXT)

    def test_results_are_plain(self):
        job = parse(DOC_TEXT)
        self.assertIs(type(job), tuple)
        self.assertIs(type(job[1][0][1][0][0]), tuple)
        self.assertIs(type(job[1][0][2]), tuple)

    def test_only_spaces_and_line_feeds_separate(self):
        for sign in ("\t", "\r", "\x0b", "\x0c", "\xa0", "\u2003", "\u2028", "\x00", ","):
            self.assert_told(DOC_TEXT.replace("width 2", "width" + sign + "2"), 0)
            self.assert_told(DOC_TEXT.replace("piece b 0", "piece b" + sign + "0"), 3)
            self.assert_told(DOC_TEXT.replace("piece b 0", "piece b 0" + sign), 3)
            self.assert_told(DOC_TEXT.replace("\n", sign + "\n"), 0)
            self.assert_told(DOC_TEXT + sign, 7)
            self.assert_told(DOC_TEXT.replace("\n", sign), 0)

    def test_what_is_no_string(self):
        for value in (None, True, 0, 5, (), [], [DOC_TEXT], DOC_JOB, 10 ** 30, [0] * 5000):
            self.assert_told(value, 0)

    def test_texts_that_end_too_early(self):
        lines = DOC_TEXT.split("\n")[:-1]
        for many in range(8):
            right = many in (3, 5, 7)
            self.assert_told("".join(line + "\n" for line in lines[:many]), None if right else many)
            self.assert_told("\n".join(lines[:many]), None if right else many)
            self.assert_told("\n".join(lines[:many]) + "\n\n  \n", None if right else max(many + 2, 3))
        self.assert_told("", 0)
        self.assert_told("\n", 1)
        self.assert_told(" ", 1)
        self.assert_told("\n\n \n ", 4)

    def test_widths(self):
        rest = DOC_TEXT.split("\n", 1)[1]
        for word in ("1", "9", "10", "100"):
            self.assertEqual(parse(f"width {word}\n" + rest), (int(word), DOC_JOB[1]))
        for word in ("0", "101", "999", "1000", "-1", "-2", "+2", "02", "002", "2.0", "2.", "x", "2 2", "", "1e1", "0x2", "--2",
                     "-", "2-", "\u0662", "\u00b2", "1_0"):
            self.assert_told(f"width {word}\n" + rest, 0)
        self.assert_told("Width 2\n" + rest, 0)
        self.assert_told(rest, 0)
        self.assert_told("width 2\nwidth 2\n" + rest, 1)
        self.assert_told("width 2\n" + rest + "width 2\n", 7)
        self.assert_told("width 2\npiece a 0\nwidth 2\n" + SQUARE_LINE, 2)

    def test_names_and_turns(self):
        for line in ("piece", "piece a", "piece 0", "piece A 0", "piece a1 0", "piece abcdefghi 0", "piece a b 0", "piece a_ 0",
                     "piece a 4", "piece a -1", "piece a 00", "piece a -0", "piece a +1", "piece a 01", "piece a 0 0",
                     "piece a 1 0", "piece a 0 1 2 3 3", "piece a 0 1 2 3 4", "piece a 0,1", "piece a x", "piece \u00e4 0", "pieces a 0",
                     "piece a 0 x"):
            self.assert_told("width 5\n" + line + "\n" + SQUARE_LINE, 1)
        for turns in ("0", "3", "0 1", "1 3", "0 1 2", "0 1 2 3"):
            self.assert_told("width 5\npiece a " + turns + "\n" + SQUARE_LINE, None)
        self.assert_told("width 5\npiece width 0\n" + SQUARE_LINE + "piece piece 1\n" + SQUARE_LINE, None)

    def test_parts(self):
        head = "width 5\npiece a 0\n"
        for line in ("part", "part 0", "part 0 0 2 0", "part 0 0 2 0 0", "part 0 0 2 0 0 2 1", "part 0 0 2 0 2 2 0", "parts 0 0 2 0 0 2",
                     "part 0 0 0 2 2 0", "part 2 0 0 2 0 0", "part 0 0 1 0 2 0", "part 0 0 41 0 0 2", "part 0 0 2 0 0 -41", "part 0 0 2 0 -0 2",
                     "part 0 0 2 00 0 2", "part 0 0 1000 0 0 2", "part 0 0 2 0 0 02", "part 0 0 2 0 0 x", "part 0 0 2 0 0 +2",
                     "part 0 0 2 0 0 2.", "part (0,0) (2,0) (0,2)", "part a 0 0 2 0 0 2", "part -2 0 -1 -2 1 -2 2 0 1 2 -1 2",
                     "part " + " ".join(f"{x} {y}" for x, y in STAR), "part 0 0 2 0 0 2 0 0 2 0 0 2"):
            self.assert_told(head + line + "\n", 2)
            self.assert_told(head + SQUARE_LINE + line + "\n", 3)
        for line in ("part -40 -40 40 -40 40 40 -40 40", "part -2 0 0 -3 3 -1 2 2 0 3"):
            self.assert_told(head + line, None)

    def test_lines_where_they_may_not_stand(self):
        self.assert_told(SQUARE_LINE, 0)
        self.assert_told("width 5\n" + SQUARE_LINE, 1)
        self.assert_told("piece a 0\nwidth 5\n" + SQUARE_LINE, 0)
        self.assert_told("width 5\npiece a 0\npiece b 0\n" + SQUARE_LINE, 2)
        self.assert_told("width 5\npiece a 0\n" + SQUARE_LINE + "piece b 0\n\npiece c 0\n", 5)
        self.assert_told("width 5\nx\n", 1)
        self.assert_told("width 5\npiece a 0\n" + SQUARE_LINE + "0\n", 3)

    def test_names_a_second_time(self):
        self.assert_told("width 5\npiece a 0\n" + SQUARE_LINE + "piece a 0\n" + SQUARE_LINE, 3)
        self.assert_told("width 5\npiece a 0\n" + SQUARE_LINE + "piece b 0\n" + SQUARE_LINE + "piece a 1\n", 5)
        self.assert_told("width 5\npiece a 0\n" + SQUARE_LINE + "piece aa 0\n" + SQUARE_LINE, None)

    def test_limits_of_a_job(self):
        def text(*many, turns=None):
            return "width 5\n" + "".join(f"piece {'abcde'[at]} {(turns or {}).get(at, '0')}\n" + SQUARE_LINE * count
                                         for at, count in enumerate(many))
        for counts, at in (((1, 1, 1, 1), None), ((1, 1, 1, 1, 1), 9), ((3, 1), None), ((4,), 5), ((3, 2), 7), ((2, 2), None),
                           ((2, 3), 7), ((1, 1, 2), None), ((1, 1, 3), 8), ((2, 2, 1), 8), ((3, 1, 1), 8), ((3, 4), 7)):
            self.assert_told(text(*counts), at)
            self.assert_told(text(*counts) + "x", text(*counts).count("\n") if at is None else at)
        for turns, at in (({0: "0 1", 1: "2 3"}, None), ({0: "0 1 2 3"}, None), ({2: "0 1 2 3"}, None), ({0: "0 1", 1: "0 1 2"}, 3),
                          ({0: "0 1", 2: "0 1 2 3"}, 5), ({0: "0 1", 1: "0 2", 2: "1 3"}, 5), ({0: "0 1 2", 1: "1 3"}, 3)):
            self.assert_told(text(1, 1, 1, turns=turns), at)
        self.assertEqual(is_job((5, FIVE_PARTS)), False)

    def test_the_first_wrong_line_is_told(self):
        lines = DOC_TEXT.split("\n")[:-1]
        for first in range(7):
            for second in range(7):
                text = "\n".join("x" if at in (first, second) else line for at, line in enumerate(lines))
                self.assert_told(text, min(first, second))
                self.assert_told("\n \n" + text, min(first, second) + 2)

    def test_any_changes(self):
        random, maker = Random(62), oracle.Maker(62)
        results = set()
        for _ in range(500):
            job = (maker.random.randint(1, 100), maker.pieces(2))
            if not is_job(job):
                continue
            lines = printed(job).split("\n")[:-1]
            for _ in range(random.choice((0, 1, 1, 2))):
                at = random.randrange(len(lines))
                words = lines[at].split(" ")
                words[random.randrange(len(words))] = random.choice(("0", "-1", "2", "40", "41", "", "a", "b", "part", "piece", "-0"))
                lines[at:at + 1] = random.choice(([], [lines[at]] * 2, [" ".join(words)], [" ".join(words)],
                                                  [lines[random.randrange(len(lines))]], ["", lines[at] + "  "]))
            text = "\n".join(lines) + random.choice(("", "\n", "\n\n"))
            self.assert_told(text, fault(text))
            if fault(text) is None:
                self.assertEqual(printed(parse(text)), plain_of(text))
            results.add(fault(text) is None)
        self.assertEqual(results, {True, False})

    def test_by_name(self):
        self.assertEqual(parse(text=DOC_TEXT), DOC_JOB)
        self.assertEqual(printed(job=DOC_JOB), DOC_TEXT)
        self.assertEqual(parse(printed((3, (("w", (WEDGE,), (1,)),)))), (3, (("w", (WEDGE,), (1,)),)))


if __name__ == "__main__":
    unittest.main()
