"""The names, arguments and numbers of the interface, and what is promised everywhere [A3]."""

import copy
import importlib
import inspect
import unittest

from homewords import bounds, errors
from tests.samples import deeds, drawn_tables, programs, states, triangular_tables

BOUNDS = {
    "MAX_WORDS": 8, "MAX_WIDTH": 64, "MAX_BITS": 8, "MAX_TERMS": 1000, "MAX_ROW": 400, "MAX_DEEP": 12,
    "MAX_TIMES": 10 ** 30, "MAX_STEPS": 5000, "MAX_LENGTH": 10 ** 300, "MAX_PAIRS": 300,
}

# Each function by its module, with the names of its arguments and some arguments for a call.
FUNCTIONS = (
    ("states", "state_number", {"w": 4, "state": (5, 3, 8)}),
    ("columns", "column_of", {"state": (5, 3, 8), "k": 3}),
    ("columns", "columns_of", {"w": 4, "state": (5, 3, 8)}),
    ("columns", "state_of", {"n": 3, "columns": (3, 2, 1, 4)}),
    ("columns", "low_part", {"state": (5, 3, 8), "k": 2}),
    ("columns", "agree", {"w": 4, "one": (5, 3, 8), "other": (13, 3, 8)}),
    ("columns", "depth", {"w": 4, "state": (8, 4, 12)}),
    ("columns", "halved", {"state": (5, 3, 8), "k": 1}),
    ("deeds", "done", {"w": 3, "state": (5, 6, 3), "deed": ("add", 0, 1)}),
    ("deeds", "undone", {"w": 3, "state": (5, 6, 3), "deed": ("add", 0, 1)}),
    ("programs", "length", {"program": (("do", ("one", 0)),)}),
    ("programs", "language_of", {"program": (("do", ("one", 0)),)}),
    ("programs", "sign_parity", {"program": (("do", ("and", 0, 1, 2)),)}),
    ("runs", "run", {"n": 3, "w": 4, "program": (("do", ("one", 0)),), "state": (5, 9, 2)}),
    ("tables", "still", {"n": 4, "w": 2}),
    ("tables", "deed_table", {"n": 3, "w": 2, "deed": ("add", 0, 1)}),
    ("tables", "both", {"one": (0, 3, 6, 5, 4, 7, 2, 1), "other": (0, 1, 2, 7, 4, 5, 6, 3)}),
    ("tables", "undone_table", {"table": (0, 3, 6, 5, 4, 7, 2, 1)}),
    ("doing", "table_of", {"n": 3, "w": 2, "program": (("do", ("one", 0)), ("times", ("part", 0), 10 ** 30 - 1))}),
    ("doing", "led", {"n": 3, "w": 1, "table": (0, 3, 6, 5, 4, 7, 2, 1), "state": (0, 0, 1)}),
    ("levels", "moved", {"n": 3, "w": 1, "table": (0, 3, 6, 5, 4, 7, 2, 1), "k": 0, "low": (0, 0, 0)}),
    ("levels", "level_signs", {"n": 3, "w": 1, "table": (0, 3, 6, 5, 4, 7, 2, 1), "k": 0}),
    ("marks", "mark_paper", {"n": 3, "w": 1, "language": "sums", "table": (3, 0, 6, 5, 4, 7, 2, 1)}),
    ("marks", "asked", {"n": 3, "w": 1, "table": (0, 3, 6, 5, 4, 7, 2, 1)}),
    ("papers", "paper_holds", {
        "n": 3, "w": 1, "language": "sums", "table": (3, 0, 6, 5, 4, 7, 2, 1), "value": ("doubles", (0, 0, 1)),
    }),
    ("sizes", "table_count", {"n": 4, "w": 2, "language": "sums"}),
    ("columnwriting", "column_program", {"n": 3, "moves": (0, 3, 6, 5, 4, 7, 2, 1)}),
    ("ringwriting", "ring_program", {"n": 3, "language": "sums", "column": 5, "u": 1, "v": 2, "z": 7}),
    ("writing", "written", {"n": 3, "w": 1, "language": "all", "table": (3, 0, 6, 5, 4, 7, 2, 1)}),
    ("pairpapers", "pair_paper", {"n": 3, "w": 2, "language": "sums", "pairs": (((1, 2, 3), (2, 0, 2)),)}),
    ("pairpapers", "pair_holds", {
        "n": 3, "w": 2, "language": "sums", "pairs": (((1, 2, 3), (2, 0, 2)),), "value": ("depth", 0),
    }),
    ("finishing", "finished", {"n": 3, "w": 2, "language": "sums", "pairs": (((1, 2, 3), (1, 1, 0)),)}),
    ("finishing", "finish_count", {"n": 3, "w": 2, "language": "sums", "pairs": (((1, 2, 3), (1, 1, 0)),)}),
    ("finishing", "tells", {
        "n": 3, "w": 2, "language": "sums", "pairs": (((1, 2, 3), (1, 1, 0)),), "state": (2, 0, 2),
    }),
)
# Functions that return something else than integers.
KINDS = {
    "language_of": str, "asked": str, "mark_paper": tuple, "paper_holds": bool, "column_program": tuple,
    "ring_program": tuple, "written": tuple, "pair_paper": tuple, "pair_holds": bool,
}
# Functions that return tuples of integers.
TUPLES = (
    "columns_of", "state_of", "low_part", "halved", "done", "undone", "run", "still", "deed_table", "both",
    "undone_table", "table_of", "led", "moved", "level_signs", "finished", "tells",
)

VALUES = (
    None, True, False, 0, 1, -1, 10 ** 400 - 1, "", "words\nof two lines, 5 % {0} \\", (), ("sees", 1, (0, 0), (2, 0)),
    [], [True, [1, "x"]], {}, {"a": [None, {1: (2, 3)}], (1, 2): "b", None: True},
)


def nested(deep):
    value = []
    for _ in range(deep - 1):
        value = [value]
    return value


class BoundsTest(unittest.TestCase):
    def test_numbers(self):
        told = {name: number for name, number in vars(bounds).items() if not name.startswith("_")}
        self.assertEqual(told, BOUNDS)
        self.assertEqual({number.__class__ for number in told.values()}, {int})


class ErrorsTest(unittest.TestCase):
    def test_families(self):
        self.assertEqual(errors.WordsError.__bases__, (ValueError,))
        for error in (errors.Unfit, errors.Barred, errors.TooMany):
            self.assertEqual(error.__bases__, (errors.WordsError,))

    def test_arguments(self):
        for error, names in ((errors.Unfit, []), (errors.Barred, ["paper"]), (errors.TooMany, ["limit"])):
            self.assertEqual(list(inspect.signature(error).parameters), names)

    def test_unfit_is_made_without_arguments(self):
        for caught in (errors.Unfit, errors.WordsError, ValueError):
            with self.assertRaises(caught):
                raise errors.Unfit()

    def test_values_are_kept_as_passed(self):
        for value in VALUES + (nested(40), list(range(4000))):
            before = copy.deepcopy(value)
            for made, name in (
                (errors.Barred(value), "paper"), (errors.Barred(paper=value), "paper"),
                (errors.TooMany(value), "limit"), (errors.TooMany(limit=value), "limit"),
            ):
                self.assertIs(getattr(made, name), value)
                self.assertEqual(vars(made), {name: before})
                self.assertIsInstance(str(made), str)

    def test_caught_by_each_name(self):
        for error in (errors.Barred, errors.TooMany):
            for caught in (error, errors.WordsError, ValueError):
                with self.assertRaises(caught) as found:
                    raise error(("odd",))
                self.assertEqual(list(vars(found.exception).values()), [("odd",)])

    def test_own_errors_are_told_apart(self):
        self.assertNotIsInstance(errors.Barred(1), errors.TooMany)
        self.assertNotIsInstance(errors.TooMany(1), errors.Barred)
        self.assertNotIsInstance(errors.Unfit(), errors.Barred)


class FunctionsTest(unittest.TestCase):
    def called(self):
        for module, name, arguments in FUNCTIONS:
            yield getattr(importlib.import_module("homewords." + module), name), arguments

    def test_each_stands_in_its_own_file(self):
        for module, name, _ in FUNCTIONS:
            function = getattr(importlib.import_module("homewords." + module), name)
            self.assertTrue(inspect.isfunction(function))
            self.assertEqual((function.__module__, function.__name__), ("homewords." + module, name))

    def test_names_of_arguments(self):
        for function, arguments in self.called():
            self.assertEqual(list(inspect.signature(function).parameters), list(arguments))

    def test_by_place_and_by_name(self):
        for function, arguments in self.called():
            by_place = function(*arguments.values())
            self.assertEqual(function(**arguments), by_place)
            self.assertEqual(function(**dict(reversed(list(arguments.items())))), by_place)

    def test_kinds_of_results(self):
        for function, arguments in self.called():
            result = function(**arguments)
            name = function.__name__
            self.assertIs(result.__class__, tuple if name in TUPLES else KINDS.get(name, int), name)
            if name in TUPLES:
                self.assertEqual({item.__class__ for item in result}, {int})

    def test_equal_calls_twice_and_arguments_stay(self):
        for function, arguments in self.called():
            before = repr(arguments)
            first = function(**arguments)
            kept = repr(first)
            self.assertEqual(function(**copy.deepcopy(arguments)), first)
            self.assertEqual((repr(arguments), repr(first)), (before, kept))

    def test_programs_twice(self):
        run = importlib.import_module("homewords.runs").run
        for program in programs(3, 30):
            before = repr(program)
            results = [run(3, 5, program, state) for state in states(3, 5)]
            again = [run(3, 5, copy.deepcopy(program), state) for state in states(3, 5)]
            self.assertEqual((again, repr(program)), (results, before))

    def test_equal_calls_raise_equal_errors(self):
        run = importlib.import_module("homewords.runs").run
        length = importlib.import_module("homewords.programs").length
        deed = ("do", deeds(3)[0])
        endless = (deed,) + tuple(("times", ("part", place), 10 ** 30) for place in range(11))
        for _ in range(2):
            with self.assertRaises(errors.TooMany) as caught:
                length(endless)
            self.assertEqual(vars(caught.exception), {"limit": 10 ** 300})
            with self.assertRaises(errors.TooMany) as caught:
                run(3, 4, endless, (1, 2, 3))
            self.assertEqual(vars(caught.exception), {"limit": 5000})

    def test_tables_of_programs_twice(self):
        table_of = importlib.import_module("homewords.doing").table_of
        for program in programs(3, 30):
            before = repr(program)
            first = table_of(3, 2, program)
            kept = repr(first)
            self.assertEqual(table_of(3, 2, copy.deepcopy(program)), first)
            self.assertEqual((repr(program), repr(first)), (before, kept))

    def test_levels_twice(self):
        levels = importlib.import_module("homewords.levels")
        for table in triangular_tables(3, 2, 3):
            before = repr(table)
            for k, low in ((0, (0, 0, 0)), (1, (1, 0, 1))):
                rows = [levels.moved(3, 2, table, k, low) for _ in range(2)]
                rows.append(levels.moved(low=low, k=k, table=copy.deepcopy(table), w=2, n=3))
                signs = [levels.level_signs(3, 2, table, k) for _ in range(2)]
                signs.append(levels.level_signs(k=k, table=copy.deepcopy(table), w=2, n=3))
                self.assertEqual((rows, signs), (rows[:1] * 3, signs[:1] * 3))
            self.assertEqual(repr(table), before)

    def test_unfit_twice(self):
        levels = importlib.import_module("homewords.levels")
        unfit = (16,) + tuple(range(1, 16)) + (0,) + tuple(range(17, 64))
        before = repr(unfit)
        for _ in range(2):
            with self.assertRaises(errors.Unfit) as caught:
                levels.moved(n=3, w=2, table=unfit, k=1, low=(0, 0, 0))
            self.assertEqual(vars(caught.exception), {})
            with self.assertRaises(errors.Unfit) as caught:
                levels.level_signs(n=3, w=2, table=unfit, k=1)
            self.assertEqual((vars(caught.exception), repr(unfit)), ({}, before))

    def test_marks_and_papers_twice(self):
        marks, papers = (importlib.import_module("homewords." + name) for name in ("marks", "papers"))
        for table in triangular_tables(3, 2, 3) + drawn_tables(3, 2, 2):
            before = repr(table)
            for language in ("bits", "sums", "all"):
                paper = marks.mark_paper(3, 2, language, table)
                kept = repr(paper)
                again = marks.mark_paper(table=copy.deepcopy(table), language=language, w=2, n=3)
                self.assertEqual((again, repr(paper)), (paper, kept))
                # What was returned may be handed in, with a part changed, too.
                for value in (paper, paper[:-1] + (list(paper[-1:]),), list(paper), ("odd",) + paper):
                    whole = repr(value)
                    held = papers.paper_holds(n=3, w=2, language=language, table=table, value=value)
                    self.assertEqual(held, value is paper)
                    self.assertEqual((papers.paper_holds(3, 2, language, table, value), repr(value)), (held, whole))
            self.assertEqual((marks.asked(table=table, w=2, n=3), repr(table)), (marks.asked(3, 2, table), before))

    def test_errors_of_writing_and_finishing_twice(self):
        swapped = (1, 0) + tuple(range(2, 64))
        pairs = (((1, 2, 3), (2, 0, 2)), ((1, 0, 1), (1, 1, 1)))
        for module, name, arguments, error in (
            ("ringwriting", "ring_program", {"n": 4, "language": "sums", "column": 0, "u": 1, "v": 2, "z": 3}, errors.Unfit),
            ("ringwriting", "ring_program", {"n": 3, "language": "all", "column": 1, "u": 2, "v": 3, "z": 2}, errors.Unfit),
            ("writing", "written", {"n": 3, "w": 2, "language": "bits", "table": swapped}, errors.Barred),
            ("writing", "written", {"n": 3, "w": 2, "language": "all", "table": swapped}, errors.Barred),
            ("finishing", "finished", {"n": 3, "w": 2, "language": "sums", "pairs": pairs}, errors.Barred),
            ("finishing", "tells", {"n": 3, "w": 2, "language": "all", "pairs": pairs, "state": (1, 1, 1)}, errors.Unfit),
        ):
            function = getattr(importlib.import_module("homewords." + module), name)
            before = repr(arguments)
            found = []
            for called in (arguments, copy.deepcopy(arguments), dict(reversed(list(arguments.items())))):
                with self.assertRaises(error) as caught:
                    function(**called)
                found.append((caught.exception.__class__, vars(caught.exception)))
            with self.assertRaises(error):
                function(*arguments.values())
            self.assertEqual((found, repr(arguments)), (found[:1] * 3, before))

    def test_papers_are_handed_in_where_others_belong(self):
        # A paper of a table is none of pairs, and a program, a table or a count is none of either.
        modules = {name: importlib.import_module("homewords." + name) for name in ("papers", "pairpapers", "writing", "marks")}
        table = (1, 0) + tuple(range(2, 64))
        pairs = (((1, 2, 3), (2, 0, 2)), ((1, 0, 1), (1, 1, 1)))
        for language in ("bits", "sums", "all"):
            paper = modules["marks"].mark_paper(3, 2, language, table)
            other = modules["pairpapers"].pair_paper(3, 2, language, pairs)
            self.assertTrue(modules["papers"].paper_holds(3, 2, language, table, paper))
            self.assertTrue(modules["pairpapers"].pair_holds(3, 2, language, pairs, other))
            for value in (other, table, pairs, modules["writing"].written(3, 1, "all", table[:8])):
                self.assertIs(modules["papers"].paper_holds(3, 2, language, table, value), False)
            for value in (paper, table, pairs, modules["writing"].written(3, 1, "all", table[:8])):
                self.assertIs(modules["pairpapers"].pair_holds(3, 2, language, pairs, value), False)

    def test_odd_columns_twice(self):
        column_program = importlib.import_module("homewords.columnwriting").column_program
        moves = (0, 2, 1) + tuple(range(3, 16))
        before = repr(moves)
        for _ in range(2):
            with self.assertRaises(errors.Unfit) as caught:
                column_program(moves=moves, n=4)
            self.assertEqual((vars(caught.exception), repr(moves)), ({}, before))


if __name__ == "__main__":
    unittest.main()
