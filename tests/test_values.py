"""Points 13, 14 and 15: values, fractions, errors; and the interface's names."""

import ast
import copy
import inspect
import unittest
from pathlib import Path

from snuglay import errors, least, nofits, papers, places, shapes, sheets, texts
from tests.samples import CALLS, JOB, PLACED, PAIR, SQUARE, WEDGE, arguments, deep, listed, mixed, names, spoiled

ROOT = Path(__file__).resolve().parent.parent / "snuglay"
INTERFACE = {
    "shapes": {"is_piece": ["value"], "is_job": ["value"], "turned": ["piece", "turn"], "extent": ["piece", "turn"],
               "is_laying": ["job", "length", "value"]},
    "nofits": {"nofit": ["one", "other"], "is_apart": ["one", "other", "dx", "dy"], "overlaps": ["job", "value"],
               "shared_place": ["job", "value", "i", "j"]},
    "places": {"first_place": ["width", "laid", "piece"],
               "free_spans": ["width", "laid", "piece", "turn", "left"], "filled": ["job"],
               "length_of": ["job", "value"]},
    "least": {"least": ["job"], "laying": ["job"], "beside": ["job"]},
    "papers": {"paper": ["job"], "paper_holds": ["job", "bound", "text"]},
    "texts": {"printed": ["job"], "parse": ["text"]},
}
METHODS = {"__init__": ["self", "width"], "put": ["self", "piece"], "take": ["self", "name"], "widen": ["self", "width"],
           "first": ["self", "name"], "job": ["self"], "names": ["self"], "least": ["self"], "laying": ["self"],
           "filled": ["self"], "room": ["self", "piece"], "copy": ["self"], "__len__": ["self"],
           "__contains__": ["self", "x"], "__eq__": ["self", "other"]}
MODULES = {"shapes": shapes, "nofits": nofits, "places": places, "least": least, "papers": papers, "texts": texts}


def refusal(function, values):
    """The position that BadValue tells; None if nothing is raised."""
    try:
        function(*values)
    except errors.BadValue as e:
        return e.at
    return None


def is_plain(value):
    """Whether the value is built from plain tuples, integers, strings, True, False, None alone."""
    if type(value) is tuple:
        return all(is_plain(item) for item in value)
    return value is None or type(value) in (int, bool, str)


class Interface(unittest.TestCase):
    def test_names_and_arguments(self):
        for module, functions in INTERFACE.items():
            tree = ast.parse((ROOT / (module + ".py")).read_text())
            here = [node.name for node in tree.body if isinstance(node, ast.FunctionDef)]
            for name, parameters in functions.items():
                self.assertIn(name, here)
                self.assertEqual(list(inspect.signature(getattr(MODULES[module], name)).parameters), parameters)

    def test_methods_stand_in_their_class(self):
        for name, parameters in METHODS.items():
            self.assertIn(name, vars(sheets.Sheet))
            self.assertEqual(list(inspect.signature(vars(sheets.Sheet)[name]).parameters), parameters)
        tree = ast.parse((ROOT / "sheets.py").read_text())
        self.assertEqual([node.name for node in tree.body if isinstance(node, ast.ClassDef)], ["Sheet"])

    def test_error_classes_stand_in_their_file(self):
        tree = ast.parse((ROOT / "errors.py").read_text())
        here = [node.name for node in tree.body if isinstance(node, ast.ClassDef)]
        self.assertEqual(sorted(here), sorted(["LayError", "BadValue", "BadText", "BadPaper", "NoPiece", "TakenName",
                                               "TooMany"]))


class Errors(unittest.TestCase):
    """Point 15."""

    def test_bases(self):
        self.assertEqual(errors.LayError.__bases__, (Exception,))
        for name in ("BadValue", "BadText", "BadPaper", "NoPiece", "TakenName", "TooMany"):
            self.assertEqual(getattr(errors, name).__bases__, (errors.LayError,))

    def test_attributes(self):
        for name in ("BadValue", "BadText", "BadPaper"):
            self.assertEqual(getattr(errors, name)(3).at, 3)
            self.assertEqual(getattr(errors, name)(at=0).at, 0)
        for name in ("NoPiece", "TakenName"):
            for value in ("a", None, True, ["a"], 7):
                self.assertIs(getattr(errors, name)(value).name, value)
                self.assertIs(getattr(errors, name)(name=value).name, value)

    def test_too_many_takes_nothing(self):
        self.assertEqual(errors.TooMany().args, ())

    def test_they_are_raised_and_caught(self):
        for error in (errors.BadValue(1), errors.BadText(2), errors.BadPaper(3), errors.NoPiece("a"),
                      errors.TakenName("b"), errors.TooMany()):
            with self.assertRaises(errors.LayError):
                raise error


class WrongValues(unittest.TestCase):
    """Point 13: what raises which error."""

    def test_right_arguments_are_not_refused(self):
        for function, rows in CALLS:
            self.assertIsNone(refusal(function, arguments(function, rows)), function)

    def test_each_wrong_argument_is_told_by_its_position(self):
        for function, rows in CALLS:
            right = arguments(function, rows)
            for at, (name, good, bad) in enumerate(rows):
                for wrong in bad:
                    values = right[:at] + [wrong] + right[at + 1:]
                    self.assertEqual(refusal(function, values), at, (function, wrong))
                    values[at] = listed(wrong)
                    self.assertEqual(refusal(function, values), at, (function, wrong))

    def test_wrong_at_any_level(self):
        for function, rows in CALLS:
            right = arguments(function, rows)
            for at, (name, good, bad) in enumerate(rows):
                for wrong in spoiled(good):
                    if name in ("i", "j") and wrong == 0 and wrong is not False:
                        continue
                    if name == "bound" and wrong is None:
                        continue
                    values = right[:at] + [wrong] + right[at + 1:]
                    self.assertEqual(refusal(function, values), at, (function, wrong))

    def test_deep_and_long_values(self):
        for function, rows in CALLS:
            right = arguments(function, rows)
            for at in range(len(rows)):
                for wrong in (deep(20), [0] * 5000, [[]] * 4999, "a" * 20000, [None, [True, ["\n", -10 ** 30 + 1]]]):
                    self.assertEqual(refusal(function, right[:at] + [wrong] + right[at + 1:]), at, function)

    def test_two_wrong_arguments(self):
        for function, rows in CALLS:
            for first in range(len(rows)):
                for second in range(first + 1, len(rows)):
                    for k in (0, 1, 5):
                        values = arguments(function, rows)
                        values[first] = rows[first][2][k]
                        values[second] = rows[second][2][-1 - k]
                        self.assertEqual(refusal(function, values), first, function)

    def test_all_arguments_wrong(self):
        for function, rows in CALLS:
            self.assertEqual(refusal(function, [None] * len(arguments(function, rows))), 0, function)

    def test_questions_about_values_raise_nothing(self):
        for wrong in list(spoiled(JOB)) + [deep(20), [0] * 5000, "a" * 20000, None]:
            self.assertIs(shapes.is_job(wrong), False)
        for wrong in list(spoiled(PAIR)) + [deep(20), [0] * 5000, "a" * 20000, None]:
            self.assertIs(shapes.is_piece(wrong), False)
        for wrong in list(spoiled(PLACED)) + [deep(20), [0] * 5000, "a" * 20000, None]:
            self.assertIs(shapes.is_laying(JOB, (9, 1), wrong), False)


class RightValues(unittest.TestCase):
    """Point 13: lists and tuples, names of arguments, what is returned, what is not changed."""

    def test_lists_are_as_good_as_tuples(self):
        for function, rows in CALLS:
            right = arguments(function, rows)
            for form in (listed, mixed):
                self.assertEqual(function(*[form(value) for value in right]), function(*right), function)
        for form in (listed, mixed):
            self.assertIs(shapes.is_job(form(JOB)), True)
            self.assertIs(shapes.is_piece(form(PAIR)), True)

    def test_arguments_by_name(self):
        for function, rows in CALLS:
            right, words = arguments(function, rows), names(function, rows)
            for first in range(len(words)):
                told = dict(zip(words[first:], right[first:]))
                self.assertEqual(function(*right[:first], **told), function(*right), function)
        self.assertIs(shapes.is_job(value=JOB), True)
        self.assertIs(shapes.is_piece(value=PAIR), True)

    def test_results_are_plain_at_every_level(self):
        for function, rows in CALLS:
            for form in (tuple, listed):
                values = [form(value) if isinstance(value, tuple) else value for value in arguments(function, rows)]
                self.assertTrue(is_plain(function(*values)), function)

    def test_yes_and_no_are_true_and_false(self):
        for value in (JOB, PAIR, None):
            self.assertIs(type(shapes.is_job(value)), bool)
            self.assertIs(type(shapes.is_piece(value)), bool)
        self.assertIs(type(shapes.is_laying(JOB, (50, 1), PLACED)), bool)
        self.assertIs(type(nofits.is_apart(SQUARE, WEDGE, (0, 1), (0, 1))), bool)
        self.assertIs(type(nofits.is_apart(SQUARE, WEDGE, (2, 1), (0, 1))), bool)

    def test_arguments_are_not_changed_and_not_kept(self):
        for function, rows in CALLS:
            values = [listed(value) for value in arguments(function, rows)]
            before = copy.deepcopy(values)
            answer = function(*values)
            told = copy.deepcopy(answer)
            self.assertEqual(values, before, function)
            for value in values:
                if isinstance(value, list):
                    value.clear()
            self.assertEqual(answer, told, function)
            self.assertEqual(function(*before), told, function)

    def test_refused_arguments_are_not_changed(self):
        for function, rows in CALLS:
            values = [listed(value) for value in arguments(function, rows)]
            values[len(rows) - 1] = ["no", ["such"], True]
            before = copy.deepcopy(values)
            self.assertEqual(refusal(function, values), len(rows) - 1)
            self.assertEqual(values, before)


class Fractions(unittest.TestCase):
    """Point 14."""

    def test_great_tops_and_bottoms(self):
        top = 10 ** 40
        for dx in ((top, top - 1), (-top, 1), (top, 1), (1, top), (-1, top), (top - 1, top), (0, 1), (1 - top, top)):
            self.assertIs(nofits.is_apart(SQUARE, SQUARE, dx, (0, 1)), abs(dx[0]) >= 2 * dx[1])
            self.assertIs(nofits.is_apart(SQUARE, SQUARE, (0, 1), dx), abs(dx[0]) >= 2 * dx[1])
        self.assertIs(nofits.is_apart(SQUARE, SQUARE, (2 * top - 1, top), (0, 1)), False)
        self.assertIs(nofits.is_apart(SQUARE, SQUARE, (top, 5 * 10 ** 39 - 1), (0, 1)), True)
        self.assertIs(nofits.is_apart(SQUARE, SQUARE, (top - 1, 5 * 10 ** 39), (0, 1)), False)

    def test_only_lowest_terms(self):
        for wrong in ((2, 4), (0, 3), (10 ** 40, 10 ** 40), (-3, 3), (4, -2), (1, -1), (0, -1), (0, 0), (1, 0)):
            self.assertEqual(refusal(nofits.is_apart, [SQUARE, WEDGE, wrong, (0, 1)]), 2)
            self.assertEqual(refusal(nofits.is_apart, [SQUARE, WEDGE, (0, 1), wrong]), 3)

    def test_returned_fractions_may_be_passed_again(self):
        slanted = ("s", (((0, 0), (39, 1), (40, 40)),), (0, 1))
        laid = [(slanted, (0, (1, 10 ** 40 - 1), (1, 10 ** 40 - 3))), (slanted, (1, (10 ** 40, 3 ** 80), (5, 7 ** 40)))]
        placement = places.first_place(44, laid, slanted)
        self.assertGreater(max(placement[1][1], placement[2][1]), 10 ** 40)
        again = places.first_place(44, laid + [(slanted, placement)], slanted)
        low = places.free_spans(44, laid, slanted, placement[0], (again[1][0], again[1][1]))
        self.assertTrue(is_plain((placement, again, low)))
        self.assertIs(nofits.is_apart(SQUARE, SQUARE, placement[1], placement[2]) in (True, False), True)


if __name__ == "__main__":
    unittest.main()
