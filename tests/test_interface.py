"""The interface as a whole, its examples, and what the point [2] says of every module."""

import ast
import doctest
import inspect
import pathlib
import unittest

import sewnwhole.assemblies
import sewnwhole.bolts
import sewnwhole.cells
import sewnwhole.cores
import sewnwhole.cutting
import sewnwhole.errors
import sewnwhole.fabric
import sewnwhole.judges
import sewnwhole.layouts
import sewnwhole.limits
import sewnwhole.lines
import sewnwhole.patches
import sewnwhole.patterns
import sewnwhole.pictures
import sewnwhole.plans
import sewnwhole.seams
import sewnwhole.sections
import sewnwhole.symmetries
import sewnwhole.workrooms
from helpers import PINWHEEL
from sewnwhole.assemblies import Assembly
from sewnwhole.bolts import best_cutting, flaw_of_cutting, row_length
from sewnwhole.cores import core, core_paper, is_core_paper
from sewnwhole.cutting import best_patches
from sewnwhole.fabric import fabric_needed, pieces_of, total_fabric
from sewnwhole.judges import answer, flaw_of_plan, judge
from sewnwhole.layouts import arranged, decomposed, repeat_of, tiled, transformed_layout, unit_of
from sewnwhole.patches import (
    fits, merged_strips, neighbors, row_strips, seam_length, sides, transformed_patches,
)
from sewnwhole.patterns import format_pattern, half_cells, read_pattern
from sewnwhole.pictures import picture, read_picture
from sewnwhole.plans import number_of_ways, placed, sewing_plan
from sewnwhole.seams import can_be_sewn, split, straight_seams
from sewnwhole.symmetries import (
    canonical, composed, first_naming, inverse, kind_of, stabilizer, symmetry_between, transformed,
)
from sewnwhole.workrooms import Workroom

TOP = pathlib.Path(__file__).resolve().parent.parent
FUNCTIONS = {
    sewnwhole.patterns: {
        "read_pattern": ["text"],
        "format_pattern": ["pattern"],
        "half_cells": ["pattern"],
    },
    sewnwhole.symmetries: {
        "transformed": ["pattern", "symmetry"],
        "composed": ["first", "second"],
        "inverse": ["symmetry"],
        "canonical": ["pattern"],
        "symmetry_between": ["first", "second"],
        "stabilizer": ["pattern"],
        "first_naming": ["pattern"],
        "kind_of": ["pattern"],
    },
    sewnwhole.layouts: {
        "arranged": ["blocks", "layout"],
        "transformed_layout": ["layout", "symmetry"],
        "decomposed": ["pattern", "size"],
        "repeat_of": ["pattern"],
        "unit_of": ["pattern"],
        "tiled": ["pattern", "down", "across"],
    },
    sewnwhole.patches: {
        "check_patches": ["rows"],
        "sides": ["patches"],
        "fits": ["pattern", "patches"],
        "row_strips": ["pattern"],
        "merged_strips": ["pattern"],
        "neighbors": ["patches"],
        "seam_length": ["patches"],
        "transformed_patches": ["patches", "symmetry"],
    },
    sewnwhole.pictures: {
        "picture": ["patches"],
        "read_picture": ["text"],
    },
    sewnwhole.seams: {
        "straight_seams": ["patches"],
        "split": ["patches", "seam"],
        "can_be_sewn": ["patches"],
    },
    sewnwhole.cutting: {
        "best_patches": ["pattern"],
    },
    sewnwhole.plans: {
        "placed": ["plan", "sizes"],
        "sewing_plan": ["patches"],
        "number_of_ways": ["patches"],
    },
    sewnwhole.cores: {
        "core": ["patches"],
        "core_paper": ["patches"],
        "is_core_paper": ["patches", "paper"],
    },
    sewnwhole.fabric: {
        "fabric_needed": ["pattern", "patches", "cell_size", "allowance"],
        "total_fabric": ["patches", "cell_size", "allowance"],
        "pieces_of": ["pattern", "patches", "fabric", "cell_size", "allowance"],
    },
    sewnwhole.bolts: {
        "row_length": ["pieces", "row", "width", "turned"],
        "best_cutting": ["pieces", "width", "turned"],
        "flaw_of_cutting": ["pieces", "width", "cutting", "turned"],
    },
    sewnwhole.judges: {
        "flaw_of_plan": ["patches", "plan"],
        "answer": ["question"],
        "judge": ["claim"],
        "judge_all": ["claims"],
    },
}
CLASSES = {
    sewnwhole.assemblies: {
        "Assembly": ["pattern", "patches"],
    },
    sewnwhole.workrooms: {
        "Workroom": [],
    },
}


def package_files():
    """Return the list of the files of the package."""
    return sorted((TOP / "sewnwhole").rglob("*.py"))


class InterfaceTest(unittest.TestCase):
    def test_functions_and_their_arguments(self):
        for module, functions in FUNCTIONS.items():
            for name, arguments in functions.items():
                function = getattr(module, name)
                self.assertTrue(inspect.isfunction(function), name)
                self.assertEqual(function.__module__, module.__name__, name)
                self.assertEqual(list(inspect.signature(function).parameters), arguments, name)

    def test_only_turned_is_passed_by_name_alone_and_may_be_left_out(self):
        for module, functions in FUNCTIONS.items():
            for name in functions:
                for parameter in inspect.signature(getattr(module, name)).parameters.values():
                    turned = parameter.name == "turned"
                    self.assertEqual(parameter.kind, parameter.KEYWORD_ONLY if turned
                                     else parameter.POSITIONAL_OR_KEYWORD, name)
                    self.assertIs(parameter.default, False if turned else parameter.empty, name)

    def test_classes_and_their_arguments(self):
        for module, classes in CLASSES.items():
            for name, arguments in classes.items():
                made = getattr(module, name)
                self.assertTrue(inspect.isclass(made), name)
                self.assertEqual((made.__module__, made.__bases__), (module.__name__, (object,)), name)
                self.assertEqual(list(inspect.signature(made).parameters), arguments, name)

    def test_the_examples(self):
        p = read_pattern("a a/b\nb a\n")
        self.assertEqual(
            (transformed(p, 1), canonical(p)),
            ((("b", "a"), ("a", "a\\b")), (("a", "b"), ("a/b", "a"))),
        )
        self.assertEqual(
            (composed(1, 4), stabilizer((("a", "b"), ("b", "a"))), half_cells(p)),
            (7, [0, 2, 5, 7], [("a", 5), ("b", 3)]),
        )
        self.assertEqual(kind_of((("c", "c", "x"),)), (("a", "a", "b"),))

    def test_the_examples_of_layouts_and_patches(self):
        self.assertEqual(
            arranged(((("a", "b"), ("a", "a")),), (((0, 0), (0, 1)),)), (("a", "b", "a", "a"), ("a", "a", "a", "b")),
        )
        self.assertEqual(
            decomposed((("a", "b", "a", "a"), ("a", "a", "a", "b")), 2),
            (((("a", "a"), ("a", "b")),), (((0, 3), (0, 0)),)),
        )
        self.assertEqual(
            read_picture("AAB\nCDB\nCEE\n"), ((0, 0, 1, 2), (0, 2, 2, 1), (1, 0, 2, 1), (1, 1, 1, 1), (2, 1, 1, 2)),
        )
        q = (("a", "a", "b"), ("a", "a", "b"))
        self.assertEqual(
            (merged_strips(q), seam_length(row_strips(q)), seam_length(merged_strips(q))),
            (((0, 0, 2, 2), (0, 2, 2, 1)), 5, 2),
        )

    def test_the_examples_of_plans_and_cores(self):
        q = (("a", "a", "b"), ("a", "a", "b"))
        self.assertEqual(
            (sewing_plan(row_strips(q)), number_of_ways(row_strips(q))), ([0, 2, "-", 1, 3, "-", "|"], 2),
        )
        self.assertEqual(core_paper(read_picture("AAB\nCDB\nCEE\n")), ((0, 0, 3, 3), (0, 4), (1, 2)))

    def test_the_examples_of_bolts(self):
        self.assertEqual(best_cutting([(4, 6), (3, 5), (6, 2), (2, 2)], 8), (8, ((0, 1), (2, 3))))
        self.assertEqual(best_cutting([(4, 6), (6, 3)], 7, turned=True), (6, ((0, 1),)))

    def test_the_examples_of_the_readme(self):
        result = doctest.testfile(str(TOP / "README.md"), module_relative=False)
        self.assertGreater(result.attempted, 0)
        self.assertEqual(result.failed, 0)

    def test_arguments_somewhat_beyond_the_limits_raise_no_error(self):
        large = tuple(("a", "b/c", "d") * 4 for _ in range(12))
        for pattern in (large, (), ((),)):
            for function in (canonical, stabilizer, first_naming, kind_of, format_pattern, half_cells):
                function(pattern)
            self.assertEqual(symmetry_between(pattern, pattern), 0)
        self.assertEqual(transformed(transformed(large, 1), 3), large)
        for symmetry in (-1, 8, 9):
            transformed(large, symmetry)
            inverse(symmetry)
            composed(symmetry, 4)
            composed(4, symmetry)

    def test_layouts_and_patches_somewhat_beyond_the_limits_raise_no_error(self):
        large = tuple(("a", "b/c", "d") * 4 for _ in range(12))
        for pattern in (large, (), ((),)):
            for function in (repeat_of, unit_of, row_strips, merged_strips):
                function(pattern)
            self.assertTrue(fits(pattern, row_strips(pattern)) or pattern == ((),))
        self.assertEqual(decomposed(large, 12)[0], (canonical(large),))
        self.assertEqual(len(decomposed(large, 4)[1]), 3)
        for down, across in ((0, 1), (1, 0), (-1, 1), (1, -1)):
            tiled((("a",),), down, across)
        layout = (((0, 0), (1, 5)) * 6,) * 12
        self.assertEqual(transformed_layout(transformed_layout(layout, 1), 3), layout)
        for symmetry in (-1, 8, 9):
            transformed_layout(layout, symmetry)
            transformed_patches(((0, 0, 12, 1), (0, 1, 12, 13)), symmetry)
        cells = tuple((row, column, 1, 1) for row in range(12) for column in range(13))
        self.assertEqual((sides(cells), seam_length(cells), len(straight_seams(cells))), ((12, 13), 287, 23))
        self.assertEqual(picture(((0, 0, 12, 1), (0, 1, 12, 13))), ("A" + "B" * 13 + "\n") * 12)
        self.assertTrue(can_be_sewn(cells))

    def test_plans_and_assemblies_somewhat_beyond_the_limits_raise_no_error(self):
        for pattern in ((), ((),)):
            self.assertEqual(best_patches(pattern), ())
        large = (("a", "b/c", "d") * 4,) * 12
        self.assertTrue(fits(large, best_patches(large)))
        cells = tuple((row, column, 1, 1) for row in range(12) for column in range(12))
        self.assertEqual(len(sewing_plan(cells)), 287)
        self.assertGreater(number_of_ways(cells), 10 ** 40)
        self.assertIsNone(core(cells))
        self.assertEqual(placed([0], [(12, 11)]), ((0, 0, 12, 11),))
        assembly = Assembly((("a",) * 12,) * 12, cells)
        self.assertEqual((len(assembly), assembly.join(0, 1), assembly.is_completable), (144, 1, True))
        self.assertEqual(len(assembly.finish()), 142)

    def test_fabric_and_workrooms_somewhat_beyond_the_limits_raise_no_error(self):
        cells = (("a", "b/c") * 6,) * 12
        patches = row_strips(cells)
        for cell_size, allowance in ((0, 0), (41, 11), (1000, 0), (1, 100)):
            self.assertEqual(len(fabric_needed(cells, patches, cell_size, allowance)), 3 if cell_size else 0)
            self.assertEqual(len(pieces_of(cells, patches, "a", cell_size, allowance)), 72)
            total_fabric(patches, cell_size, allowance)
        pieces = [(1001, 2000)] * 10
        self.assertEqual(best_cutting(pieces, 2002), (10000, tuple((at, at + 1) for at in range(0, 10, 2))))
        self.assertEqual(best_cutting(pieces[:2], 5000, turned=True), (1001, ((0, 1),)))
        self.assertEqual(row_length(pieces, (), 5), 0)
        self.assertEqual(row_length(pieces, (), 5, turned=True), 0)
        self.assertEqual(flaw_of_cutting(pieces, 0, ((0,),)), (0, "does not fit"))
        workroom = Workroom()
        self.assertEqual((workroom.buy("a", 0), workroom.stock, workroom.buy("a", 1000001)), (0, [], 1000001))
        self.assertEqual(workroom.take((("a",) * 11,), ((0, 0, 1, 11),), 41, 11), 1)
        self.assertEqual(answer(("sewn", ((0, 0, 12, 1), (0, 1, 12, 13))))[2], [0, 1, "|"])
        self.assertIs(judge(("alike", cells, cells, 0)), True)


class NothingOutsideTest(unittest.TestCase):
    def assert_same_again(self, calls):
        """Assert that calls return the same in another order, and when what they returned has been modified."""
        once = [[function(argument) for argument in arguments] for function, arguments in calls]
        kept = repr(once)
        for row in once:
            for value in row:
                if isinstance(value, list):
                    value.append("more")
        again = [[function(argument) for argument in arguments[::-1]][::-1] for function, arguments in calls[::-1]]
        self.assertEqual(repr(again[::-1]), kept)

    def test_modules_import_only_from_the_package(self):
        for path in package_files():
            for node in ast.walk(ast.parse(path.read_text(encoding="utf-8"))):
                self.assertNotIsInstance(node, ast.Import, path.name)
                if isinstance(node, ast.ImportFrom):
                    self.assertEqual((node.level, node.module.split(".")[0]), (0, "sewnwhole"), path.name)

    def test_no_builtin_that_reaches_outside_is_named(self):
        barred = {"open", "input", "print", "exec", "eval", "compile", "__import__", "breakpoint", "globals", "vars"}
        for path in package_files():
            names = {node.id for node in ast.walk(ast.parse(path.read_text(encoding="utf-8")))
                     if isinstance(node, ast.Name)}
            self.assertEqual(names & barred, set(), path.name)

    def test_no_lists_or_dicts_are_kept_between_calls(self):
        others = (sewnwhole.cells, sewnwhole.errors, sewnwhole.limits, sewnwhole.lines, sewnwhole.sections)
        for module in (*others, *FUNCTIONS, *CLASSES):
            for name, value in vars(module).items():
                if not name.startswith("__"):
                    self.assertNotIsInstance(value, (list, set, bytearray), name)
                if isinstance(value, dict) and not name.startswith("__"):
                    # Tables of functions are only read.
                    self.assertEqual({inspect.isfunction(entry) for entry in value.values()}, {True}, name)
                    self.assertEqual(name, name.upper())

    def test_calls_in_any_order_return_the_same(self):
        texts = ["a a/b\nb a\n", "z\n", "q\\c c\nc/q q\nx y\n"]
        patterns = [read_pattern(text) for text in texts]
        functions = [canonical, stabilizer, first_naming, kind_of, format_pattern, half_cells]
        once = [[function(pattern) for pattern in patterns] for function in functions]
        again = [[function(pattern) for pattern in patterns[::-1]] for function in functions[::-1]]
        self.assertEqual([row[::-1] for row in again[::-1]], once)
        self.assertEqual(patterns, [read_pattern(text) for text in texts])

    def test_layouts_and_patches_in_any_order_return_the_same(self):
        pictures = ["AAB\nCDB\nCEE\n", "A\n", "AAB\nCCB\nDEE\n", "AB\nCB\n"]
        patches = [read_picture(text) for text in pictures]
        patterns = [read_pattern(text) for text in ("a a b\nc d b\n", "z\n", "a b/a a b/a\n", "a a\na a\n")]
        calls = [(function, patterns) for function in (repeat_of, unit_of, row_strips, merged_strips)]
        calls += [(function, patches) for function in (sides, neighbors, seam_length, picture)]
        calls += [(function, patches) for function in (straight_seams, can_be_sewn)]
        self.assert_same_again(calls)
        self.assertEqual(patches, [read_picture(text) for text in pictures])
        self.assertEqual(split(patches[2], ("-", 2)), ([0, 1, 2], [3, 4]))

    def test_plans_and_assemblies_in_any_order_return_the_same(self):
        pictures = ["AAB\nCDB\nCEE\n", "A\n", "AAB\nCCB\nDEE\n", "AB\nCB\n"]
        patches = [read_picture(text) for text in pictures]
        patterns = [read_pattern(text) for text in ("a a b\nc d b\n", "z\n", "a b/a a b/a\n", "a a\nb a\n")]
        calls = [(best_patches, patterns)]
        calls += [(function, patches) for function in (sewing_plan, number_of_ways, core, core_paper)]
        self.assert_same_again(calls)
        plan, sizes = [0, 1, "|"], [(1, 1), (1, 2)]
        self.assertEqual(placed(plan, sizes), placed(plan, sizes))
        self.assertEqual((plan, sizes), ([0, 1, "|"], [(1, 1), (1, 2)]))
        self.assertTrue(is_core_paper(PINWHEEL, core_paper(PINWHEEL)))

    def test_fabric_and_judgments_in_any_order_return_the_same(self):
        pattern = read_pattern("a a b\nc d b/a\n")
        patches = row_strips(pattern)
        pieces = [(4, 6), (3, 5), (6, 2), (2, 2)]
        questions = [("alike", pattern, pattern), ("sewn", patches), ("sewn", PINWHEEL), ("cut", pieces, 8, 8),
                     ("cut", pieces, 8, 7), ("finish", pattern, patches, [(2, 3)])]
        kept = repr(questions)
        calls = [(answer, questions), (sewnwhole.judges.judge_all, [[answer(question) for question in questions]])]
        calls += [(function, [1, 40]) for function in (
            lambda size: fabric_needed(pattern, patches, size, 2), lambda size: total_fabric(patches, size, 2),
            lambda size: pieces_of(pattern, patches, "a", size, 2), lambda size: best_cutting(pieces, 6 + size),
            lambda size: flaw_of_cutting(pieces, size, ((0, 1), (2, 3))), lambda size: row_length(pieces, (0, 1), size),
            lambda size: flaw_of_plan(patches, [0, 1, "|", size]),
        )]
        self.assert_same_again(calls)
        self.assertEqual(repr(questions), kept)


class FormTest(unittest.TestCase):
    """The rules of form that can be counted."""

    def test_the_folder_contains_only_plain_files(self):
        for path in (TOP / "sewnwhole").iterdir():
            if path.name != "__pycache__":
                self.assertRegex(path.name, r"\A[a-z_]+\.py\Z")

    def test_characters_and_sizes(self):
        for path in package_files():
            text = path.read_text(encoding="utf-8")
            self.assertEqual([sign for sign in text if sign != "\n" and not " " <= sign <= "~"], [], path.name)
            lines = text.splitlines()
            self.assertLess(len(lines), 400, path.name)
            self.assertLessEqual(max([len(line) for line in lines]), 120, path.name)

    def test_functions_have_at_most_forty_lines(self):
        for path in package_files():
            for node in ast.walk(ast.parse(path.read_text(encoding="utf-8"))):
                if isinstance(node, ast.FunctionDef):
                    self.assertLessEqual(node.end_lineno - node.lineno + 1, 40, (path.name, node.name))


if __name__ == "__main__":
    unittest.main()
