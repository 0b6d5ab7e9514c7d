"""Points 3, 4 and 31 to 33: papers, what they show, and which line is told of a wrong one."""

import unittest
from fractions import Fraction
from random import Random

from snuglay.errors import BadPaper, BadValue
from snuglay.least import laying, least
from snuglay.papers import paper, paper_holds
from snuglay.shapes import is_job, is_laying
from tests import oracle
from tests.oracle import number, pair
from tests.paper_oracle import fault, lines_in, text_of, tree_of
from tests.samples import BLOCK, DOC_JOB, KITE, SQUARE, WEDGE
from tests.test_least import CUT, FIVE, HOUSE, box, drawn, job

GREAT = 10 ** 40
SINGLE = job(5, box(3, 2))
TURNING = job(5, box(3, 2), turns={0: (0, 1)})
PAIR = job(2, SQUARE, SQUARE)
PARTED = """apart 0 0 1 0
sum 1 left 0 1 apart 0 0 1 0 1 right 1
sum 1 low 0 1 apart 0 0 1 0 1 high 1
sum 1 left 1 1 apart 0 0 1 0 1 right 0
sum 1 low 1 1 apart 0 0 1 0 1 high 0
"""


def told(question, bound, text):
    """The number that BadPaper tells; None if the text is right."""
    try:
        answer = paper_holds(question, bound, text)
    except BadPaper as e:
        return e.at
    assert answer is True
    return None


class Papers(unittest.TestCase):
    """Points 3 and 33: what `paper` writes."""

    def check(self, question):
        length, text = least(question), paper(question)
        self.assertIs(paper_holds(question, length, text), True)
        self.assertIsNone(fault(question, length, text))
        for line in text.split("\n"):
            words = line.split(" ")
            self.assertLessEqual(max(map(len, words)), 41)
            if words[0] == "sum":
                self.assertTrue(all(1 <= int(word) <= GREAT for word in words[1:] if word.isdigit()) or "0" in words)
        if length is None:
            self.assertIsNotNone(told(question, pair(10 ** 9), text.replace("low", "left")))
        else:
            greater = pair(number(length) + Fraction(1, 10 ** 9))
            self.assertIsNotNone(told(question, greater, text))
            self.assertEqual(told(question, greater, text), fault(question, greater, text))
            self.assertIsNotNone(told(question, None, text))
            self.assertIs(paper_holds(question, pair(number(length) - Fraction(1, 7)), text), True)
        return text

    def test_few_pieces(self):
        for question in (DOC_JOB, (3, DOC_JOB[1]), (1, DOC_JOB[1]), SINGLE, TURNING, PAIR, job(6, *CUT),
                         job(4, box(2, 5)), job(4, box(2, 5), turns={0: (0, 1)}), job(4, box(1, 1), box(2, 5)),
                         job(4, box(1, 1), box(5, 5), turns={0: (0, 1), 1: (0, 2)}),
                         job(5, box(3, 3), box(3, 3), box(3, 3), box(3, 3)), job(100, box(1, 1))):
            self.check(question)

    def test_drawn_jobs(self):
        maker = oracle.Maker(41)
        kinds = set()
        for _ in range(100):
            question = drawn(maker)
            text = self.check(question)
            kinds.update(word for word in text.replace("\n", " ").split(" ") if word.isalpha())
            kinds.add(least(question) is None)
        self.assertEqual(kinds, {"sum", "apart", "turn", "left", "right", "low", "high", True, False})

    def test_great_jobs(self):
        great = ((-40, -7), (-3, -40), (40, -22), (31, 40), (-29, 36))
        for question in (job(40, HOUSE, FIVE, HOUSE, FIVE, turns={0: (0, 1), 1: (1, 3)}),
                         job(30, (HOUSE, FIVE, KITE), HOUSE, turns={1: (0, 1, 2, 3)}),
                         job(80, great, HOUSE, great, FIVE, turns={0: (0, 1)})):
            self.assertTrue(is_job(question))
            length, text = least(question), paper(question)
            self.assertIs(paper_holds(question, length, text), True)
            self.assertIs(is_laying(question, length, laying(question)), True)
            self.assertIsNotNone(told(question, pair(number(length) + Fraction(1, GREAT)), text))
            self.assertLess(max(len(word) for word in text.split()), 42)

    def test_lists_and_wrong_jobs(self):
        self.assertEqual(paper([2, [["a", [list(map(list, SQUARE))], [0]]]]), paper(job(2, SQUARE)))
        for wrong in (None, (2, ()), (0, (BLOCK,)), "a"):
            with self.assertRaises(BadValue) as caught:
                paper(wrong)
            self.assertEqual(caught.exception.at, 0)


class Holds(unittest.TestCase):
    """Points 4, 31, 32 and 33: which texts hold."""

    def assert_told(self, question, bound, text, at):
        self.assertEqual(told(question, bound, text), at, text)
        self.assertEqual(fault(question, bound, text), at, text)

    def test_sums_by_hand(self):
        self.assert_told(SINGLE, (3, 1), "sum 1 left 0 1 right 0\n", None)
        self.assert_told(SINGLE, (3, 1), "sum 1 left 0 1 right 0", None)
        self.assert_told(SINGLE, (3, 1), "sum 1 right 0 1 left 0", None)
        self.assert_told(SINGLE, (3, 1), "sum 7 left 0 7 right 0", None)
        self.assert_told(PAIR, (4, 1), PARTED, None)
        for bound in ((3, 1), (2, 1), (299, 100), (0, 1), (-1, 1), (-GREAT, 1), (1, GREAT)):
            self.assert_told(SINGLE, bound, "sum 1 left 0 1 right 0", None)
        for bound in ((4, 1), (3 * GREAT // 10 + 1, GREAT // 10), (GREAT, 1), None):
            self.assert_told(SINGLE, bound, "sum 1 left 0 1 right 0", 0)

    def test_places_must_vanish(self):
        for line in ("sum 1 left 0", "sum 1 right 0", "sum 1 low 0", "sum 1 high 0", "sum 1 left 0 2 right 0",
                     "sum 2 left 0 1 right 0", "sum 1 left 0 1 right 0 1 low 0", "sum 1 left 0 1 right 0 1 high 0",
                     "sum 1 left 0 1 right 0 1 low 0 2 high 0", "sum 1 low 0 1 right 0", "sum 1 left 0 1 high 0"):
            self.assert_told(SINGLE, (0, 1), line, 0)
            self.assert_told(SINGLE, (-GREAT, 1), line, 0)

    def test_sums_that_show_less(self):
        # low and high add 3 to the constant: 1 * L - 3 + 3
        line = "sum 1 left 0 1 right 0 1 low 0 1 high 0"
        self.assert_told(SINGLE, (0, 1), line, None)
        self.assert_told(SINGLE, (-1, 2), line, None)
        self.assert_told(SINGLE, (1, 2), line, 0)
        line = "sum 2 left 0 2 right 0 1 low 0 1 high 0"
        self.assert_told(SINGLE, (3, 2), line, None)
        self.assert_told(SINGLE, (1500001, 1000000), line, 0)
        self.assert_told(SINGLE, (-9, 1), "sum 1 low 0 1 high 0", 0)
        self.assert_told(SINGLE, None, "sum 1 low 0 1 high 0", 0)

    def test_nothing_on_both_sides_is_no_contradiction(self):
        just = job(2, box(3, 2))
        for bound in (None, (0, 1), (-5, 1), (3, 1)):
            self.assert_told(just, bound, "sum 1 low 0 1 high 0", 0)
        wide = job(1, box(3, 2))
        for bound in (None, (0, 1), (-5, 1), (GREAT, 1)):
            self.assert_told(wide, bound, "sum 1 low 0 1 high 0", None)
        self.assert_told(wide, (4, 1), "sum 1 low 0 1 high 0 1 left 0 1 right 0", None)
        self.assert_told(wide, None, "sum 1 low 0 1 high 0 1 left 0 1 right 0", 0)
        self.assert_told(wide, (9, 2), "sum 1 low 0 1 high 0 1 left 0 1 right 0", 0)

    def test_weights(self):
        self.assert_told(SINGLE, (3, 1), f"sum {GREAT} left 0 {GREAT} right 0", None)
        self.assert_told(SINGLE, (3, 1), f"sum {GREAT - 1} left 0 {GREAT - 1} right 0", None)
        for weight in (GREAT + 1, 2 * GREAT, 10 * GREAT, 0, "00", "01", "-1", "+1", "1.", "1_0", "x", "", "\u0661"):
            self.assert_told(SINGLE, (0, 1), f"sum {weight} left 0 {weight} right 0", 0)
            self.assert_told(SINGLE, (0, 1), f"sum 1 left 0 {weight} right 0", 0)
            # what is weighed with it would add nothing, or nothing that does harm
            self.assert_told(SINGLE, (0, 1), f"sum 1 left 0 1 right 0 {weight} low 0", 0)
            self.assert_told(SINGLE, (-1, 1), f"sum {weight} low 0 1 left 0 1 right 0 {weight} high 0", 0)
        for many in range(1, 63):
            line = "sum" + " 1 left 0 1 right 0" * (many // 2) + " 1 left 0" * (many % 2)
            self.assert_told(SINGLE, (0, 1), line, None if many == 2 else 0)

    def test_many_weights_of_four_pieces(self):
        four = job(40, box(9, 3), box(9, 3), box(9, 3), box(9, 3))
        borders = " ".join(f"5 left {k} 5 right {k} 1 low {k} 1 high {k}" for k in range(4))
        # 20 * L - 20 * 9 + 4 * 37
        self.assert_told(four, (8, 5), "sum " + borders, None)
        self.assert_told(four, (801, 500), "sum " + borders, 0)
        self.assert_told(four, (8, 5), "sum " + borders + " 1 left 0", 0)

    def test_nothing_twice(self):
        self.assert_told(SINGLE, (3, 1), "sum 1 left 0 1 right 0 1 left 0 1 right 0", 0)
        self.assert_told(SINGLE, (3, 1), "sum 1 left 0 2 right 0 1 left 0", 0)
        twice = PARTED.replace("sum 1 left 0 1 apart 0 0 1 0 1 right 1",
                               "sum 2 left 0 1 apart 0 0 1 0 1 apart 0 0 1 0 2 right 1")
        self.assert_told(PAIR, (4, 1), twice, 1)

    def test_forms_of_lines(self):
        right = "sum 1 left 0 1 right 0"
        for line in (" " + right, right + " ", right.replace(" ", "  ", 1), right.replace("1 right", "1  right"),
                     right.replace(" ", "\t"), right + "\t", right + "\r", "\ufeff" + right, right.upper(), "Sum 1 left 0",
                     "sum", "sum ", "sum 1", "sum 1 left", "sum left 0", "sum 1 left 0 1", "sum 1 left 0 1 right",
                     "sum 1 left 00 1 right 0", "sum 1 left 1 1 right 1", "sum 1 left -1 1 right 0", "sum 1 up 0",
                     "sum 1 left 0 1 right 0 0", "sum 1 left 0, 1 right 0", "sum 1 turn 0", "", " ", "add 1 left 0", "turn",
                     "turn 0", "turn 1", "apart", "apart 0 0 1 0", "apart 0 0 0 0", "sum 1 apart 0 0 1 0", "0", "1 left 0"):
            self.assert_told(SINGLE, (0, 1), line, 0)
            self.assert_told(SINGLE, (0, 1), line + "\n", 0)

    def test_what_is_no_string_or_has_no_line(self):
        for value in (None, True, 0, (), [], ("sum 1 left 0 1 right 0",), ["sum 1 left 0 1 right 0"], 10 ** 30):
            self.assert_told(SINGLE, (3, 1), value, 0)
            self.assert_told(SINGLE, None, value, 0)
        for text in ("", "\n", "\n\n"):
            self.assert_told(SINGLE, (3, 1), text, 0)

    def test_lines_too_many_and_too_few(self):
        right = "sum 1 left 0 1 right 0"
        for text in (right + "\n\n", right + "\n" + right, right + "\n ", right + "\nx\n", right + "\n\n\n"):
            self.assert_told(SINGLE, (3, 1), text, 1)
        lines = PARTED.split("\n")[:-1]
        for many in range(5):
            self.assert_told(PAIR, (4, 1), "\n".join(lines[:many]), many)
            self.assert_told(PAIR, (4, 1), "".join(line + "\n" for line in lines[:many]), many)
        self.assert_told(PAIR, (4, 1), PARTED + lines[4], 5)
        self.assert_told(PAIR, (4, 1), PARTED + "\n", 5)
        self.assert_told(PAIR, (4, 1), "\n" + PARTED, 0)
        self.assert_told(PAIR, (4, 1), PARTED.replace("\n", "\n\n", 1), 1)
        self.assert_told(PAIR, (4, 1), PARTED.replace("\n", "\r\n"), 0)

    def test_the_first_wrong_line_is_told(self):
        lines = PARTED.split("\n")[:-1]
        for first in range(5):
            for second in range(5):
                text = "\n".join("x" if at in (first, second) else line for at, line in enumerate(lines))
                self.assert_told(PAIR, (4, 1), text, min(first, second))
        self.assert_told(PAIR, (9, 2), PARTED, 1)
        self.assert_told(PAIR, None, PARTED, 1)
        self.assert_told(PAIR, None, "apart 0 0 1 0\n" + "\n".join(lines[2:3] * 4), 1)

    def test_turns(self):
        zero, one = "sum 1 left 0 1 right 0\n", "sum 4 left 0 4 right 0\n"
        self.assert_told(TURNING, (2, 1), "turn 0\n" + zero + one, None)
        self.assert_told(TURNING, (5, 2), "turn 0\n" + zero + one, 2)
        self.assert_told(TURNING, (3, 1), "turn 0\n" + zero + zero, 2)
        self.assert_told(TURNING, (2, 1), zero, 0)
        self.assert_told(TURNING, (2, 1), "turn 0\n" + zero, 2)
        self.assert_told(TURNING, (2, 1), "turn 0\nturn 0\n" + zero * 4, 1)
        self.assert_told(TURNING, (2, 1), "turn 0\n" + zero + "turn 0\n" + zero * 2, 2)
        for line in ("turn 1", "turn 00", "turn -1", "turn", "turn ", "turn 0 ", "turn  0", "turn 0 0", "turn a", "turn 0\t"):
            self.assert_told(TURNING, (2, 1), line + "\n" + zero + one, 0)
        self.assert_told(SINGLE, (2, 1), "turn 0\n" + zero, 0)
        two = job(2, SQUARE, SQUARE, turns={0: (1, 3), 1: (0, 2)})
        both = "turn 1\n" + ("turn 0\n" + PARTED * 2) * 2
        self.assert_told(two, (4, 1), both, None)
        self.assert_told(two, (4, 1), both.replace("1", "x").replace("0", "1").replace("x", "0"), 2)
        self.assert_told(two, (4, 1), "turn 0\n" + ("turn 1\n" + PARTED * 2) * 2, None)
        self.assert_told(two, (4, 1), "turn 0\n" + "turn 1\n" + PARTED * 2 + PARTED, 12)
        self.assert_told(two, (2, 1), "turn 0\n" + zero * 2, None)
        self.assert_told(two, (2, 1), "turn 0\n" + zero.replace("0", "1") * 2, 1)

    def test_turns_decide_the_shapes(self):
        wide = job(4, box(5, 2), turns={0: (0, 1)})
        self.assert_told(wide, (5, 1), "turn 0\nsum 1 left 0 1 right 0\nsum 1 low 0 1 high 0\n", None)
        self.assert_told(wide, (5, 1), "turn 0\nsum 1 low 0 1 high 0\nsum 1 left 0 1 right 0\n", 1)
        self.assert_told(wide, (5, 1), "turn 0\nsum 1 left 0 1 right 0\nsum 1 left 0 1 right 0\n", 2)

    def test_parts(self):
        for line in ("apart 1 0 0 0", "apart 0 0 0 0", "apart 0 0 2 0", "apart 0 1 1 0", "apart 0 0 1 1", "apart 0 0 1",
                     "apart 0 0 1 0 0", "apart 00 0 1 0", "apart 0 0 01 0", "apart  0 0 1 0", "apart 0 0 1 0 ", "apart",
                     "apart 0 0 1 -0", "apart 0 0 1 x"):
            self.assert_told(PAIR, (4, 1), PARTED.replace("apart 0 0 1 0", line, 1), 0)
            self.assert_told(PAIR, (4, 1), PARTED.replace("1 apart 0 0 1 0", "1 " + line, 1), 1)
        self.assert_told(PAIR, (4, 1), "apart 0 0 1 0\n" + PARTED * 4, 1)
        undecided = job(2, SQUARE, SQUARE, turns={0: (0, 1)})
        self.assert_told(undecided, (4, 1), PARTED, 0)
        self.assert_told(undecided, (4, 1), "turn 0\n" + PARTED * 2, None)
        self.assert_told(undecided, (2, 1), "sum 1 left 1 1 right 1", None)
        self.assert_told(undecided, (2, 1), "sum 1 left 0 1 right 0", 0)
        self.assert_told(PAIR, (2, 1), "sum 1 left 0 1 apart 0 0 1 0 1 right 1", 0)
        self.assert_told(PAIR, (2, 1), "sum 1 left 0 1 right 0", None)

    def test_needless_decisions_and_other_sequences(self):
        three = job(2, SQUARE, SQUARE, SQUARE)
        four = "sum 1 left {0} 1 apart {1} 0 {2} 0 1 right {3}"
        inner = PARTED.replace("0 0 1 0", "0 0 2 0").replace("1\n", "2\n").replace("left 1", "left 2").replace("low 1", "low 2")
        self.assert_told(three, (4, 1), PARTED, None)
        self.assert_told(three, (4, 1), inner, None)
        self.assert_told(three, (4, 1), "apart 1 0 2 0\n" + PARTED * 4, None)
        self.assert_told(three, (4, 1), "apart 1 0 2 0\n" + (PARTED + inner) * 2, None)
        self.assert_told(three, (4, 1), "apart 1 0 2 0\napart 0 0 2 0\n" + PARTED * 4 + inner * 3, None)
        self.assert_told(three, (4, 1), "apart 1 0 2 0\napart 0 0 2 0\n" + PARTED * 3 + inner * 4, 17)
        self.assert_told(three, (4, 1), "apart 1 0 2 0\n" + "".join("apart 0 0 2 0\n" + PARTED * 4 for _ in range(4)), None)
        self.assert_told(three, (4, 1), "apart 1 0 2 0\n" + four.format(1, 1, 2, 2) + "\n" + PARTED * 3, None)
        self.assert_told(three, (4, 1), "apart 1 0 2 0\n" + four.format(0, 0, 1, 1) + "\n" + PARTED * 3, 1)

    def test_wrong_arguments(self):
        text = "sum 1 left 0 1 right 0"
        for wrong in (None, (), (5, ()), (0, (BLOCK,)), (5, (BLOCK, BLOCK)), "job"):
            for bound in ((3, 1), (2, 4), "x"):
                with self.assertRaises(BadValue) as caught:
                    paper_holds(wrong, bound, text)
                self.assertEqual(caught.exception.at, 0)
        for wrong in (0, 3, True, False, "", "None", (), (1,), (2, 4), (1, 0), (1, -2), (True, 1), ((1, 1), (1, 1)), [None]):
            for value in (text, None, ""):
                with self.assertRaises(BadValue) as caught:
                    paper_holds(SINGLE, wrong, value)
                self.assertEqual(caught.exception.at, 1)
        self.assertIs(paper_holds(job=SINGLE, bound=[3, 1], text=text), True)


class ChangedPapers(unittest.TestCase):
    """Points 4 and 33 over papers that were changed: the plain check tells the same."""

    def papers(self, seed, many):
        maker = oracle.Maker(seed)
        found = []
        while len(found) < many:
            question = drawn(maker, 4, 12)
            text = paper(question)
            if 2 < text.count("\n") < 80:
                found.append((question, least(question), text))
        return found

    def check(self, question, bound, text):
        self.assertEqual(told(question, bound, text), fault(question, bound, text), (question, bound, text))

    def test_lines_changed(self):
        random = Random(42)
        results = set()
        for question, bound, text in self.papers(42, 25):
            for _ in range(40):
                lines = text.split("\n")[:-1]
                for _ in range(random.choice((1, 1, 2))):
                    at = random.randrange(len(lines))
                    lines[at:at + 1] = random.choice((
                        [], [lines[at]] * 2, [lines[random.randrange(len(lines))]], [self.changed(random, lines[at])],
                        [self.changed(random, lines[at])], [self.scaled(random, lines[at])], [self.shuffled(random, lines[at])]))
                changed = "\n".join(lines) + random.choice(("", "\n", "\n\n"))
                self.check(question, bound, changed)
                results.add(told(question, bound, changed) is None)
        self.assertEqual(results, {True, False})

    def changed(self, random, line):
        words = line.split(" ")
        at = random.randrange(len(words))
        words[at] = random.choice(("0", "1", "2", "3", "left", "right", "low", "high", "apart", "", "01", words[at] + "0"))
        return " ".join(words)

    def scaled(self, random, line):
        """The same sum with all weights multiplied."""
        factor = random.choice((2, 10 ** 6, GREAT))
        return self.with_things(line, lambda weight, thing: (weight * factor, thing))

    def shuffled(self, random, line):
        if not line.startswith("sum"):
            return line
        things = self.things(line)
        random.shuffle(things)
        return "sum " + " ".join(f"{weight} {thing}" for weight, thing in things)

    def with_things(self, line, change):
        if not line.startswith("sum"):
            return line
        return "sum " + " ".join("{} {}".format(*change(weight, thing)) for weight, thing in self.things(line))

    def things(self, line):
        words = line.split(" ")[1:]
        found = []
        while words:
            size = 6 if words[1:2] == ["apart"] else 3
            found.append((int(words[0]), " ".join(words[1:size])))
            words = words[size:]
        return found

    def test_bounds_changed(self):
        for question, bound, text in self.papers(43, 25):
            own = number(bound) if bound else Fraction(7)
            for other in [None] + [pair(own + Fraction(k, 6)) for k in (-60, -7, -1, 0, 1, 2)] + [(-GREAT, 1), (GREAT, 1), (0, 1)]:
                self.check(question, other, text)

    def test_jobs_changed(self):
        for question, bound, text in self.papers(44, 20):
            width, pieces = question
            for other in ((width + 1, pieces), (width - 1, pieces), (width, pieces[::-1]), (width, pieces[:1] + pieces[2:]),
                          (width, pieces[1:]), (width, tuple((name, parts, (1,)) for name, parts, turns in pieces)),
                          (width, tuple((name, parts[::-1], turns) for name, parts, turns in pieces))):
                if is_job(other):
                    self.check(other, bound, text)

    def test_cut_off(self):
        for question, bound, text in self.papers(45, 6):
            for at in range(0, len(text), 3):
                self.check(question, bound, text[:at])

    def test_needless_decisions(self):
        random = Random(46)
        depths = set()
        for question, bound, text in self.papers(46, 20):
            tree = tree_of(question, text)
            self.assertEqual(text_of(tree), text)
            for _ in range(3):
                tree = self.with_needless(random, question, tree, {}, ())
                if len(text_of(tree)) > 60000:
                    break
                self.assertIs(paper_holds(question, bound, text_of(tree)), True)
                self.check(question, bound, text_of(tree))
            depths.add(self.depth(tree))
        self.assertGreater(len(depths), 2)

    def depth(self, tree):
        return 1 + max([self.depth(branch) for branch in tree[1]], default=0)

    def with_needless(self, random, question, tree, turns, way):
        """A tree with one more decision, for two parts that are not decided on the way or within it."""
        line, branches = tree
        if not turns:
            turns = {k: piece[2][0] for k, piece in enumerate(question[1]) if len(piece[2]) == 1}
        free = []
        for i in turns:
            for j in turns:
                for a in range(len(question[1][i][1])):
                    for b in range(len(question[1][j][1])):
                        new = f"apart {i} {a} {j} {b}"
                        if i < j and new not in way and new not in lines_in(tree):
                            free.append((new, (i, a, j, b)))
        if free and random.random() < 0.4:
            new, (i, a, j, b) = random.choice(free)
            parts = [oracle.moved(question[1][k][1][at], turns[k], 0, 0) for k, at in ((i, a), (j, b))]
            return (new, [tree] * len(oracle.planes(*parts)))
        if not branches:
            return tree
        at = random.randrange(len(branches))
        below = turns
        if line.startswith("turn"):
            k = int(line.split(" ")[1])
            below = {**turns, k: question[1][k][2][at]}
        changed = self.with_needless(random, question, branches[at], below, way + (line,)) if below else branches[at]
        return (line, branches[:at] + [changed] + branches[at + 1:])


if __name__ == "__main__":
    unittest.main()
