"""The interface as a whole, its examples, and what the point [2] says of every module."""

import ast
import doctest
import inspect
import pathlib
import unittest

import sewnwhole.cells
import sewnwhole.errors
import sewnwhole.limits
import sewnwhole.patterns
import sewnwhole.symmetries
from sewnwhole.patterns import format_pattern, half_cells, read_pattern
from sewnwhole.symmetries import (
    canonical, composed, first_naming, inverse, kind_of, stabilizer, symmetry_between, transformed,
)

TOP = pathlib.Path(__file__).resolve().parent.parent
FUNCTIONS = {
    sewnwhole.patterns: {
        "read_pattern": ["text"],
        "format_pattern": ["pattern"],
        "half_cells": ["pattern"],
    },
    sewnwhole.symmetries: {
        "transformed": ["pattern", "symmetry"],
        "composed": ["first", "second"],
        "inverse": ["symmetry"],
        "canonical": ["pattern"],
        "symmetry_between": ["first", "second"],
        "stabilizer": ["pattern"],
        "first_naming": ["pattern"],
        "kind_of": ["pattern"],
    },
}


def package_files():
    """Return the list of the files of the package."""
    return sorted((TOP / "sewnwhole").rglob("*.py"))


class InterfaceTest(unittest.TestCase):
    def test_functions_and_their_arguments(self):
        for module, functions in FUNCTIONS.items():
            for name, arguments in functions.items():
                function = getattr(module, name)
                self.assertTrue(inspect.isfunction(function), name)
                self.assertEqual(function.__module__, module.__name__, name)
                self.assertEqual(list(inspect.signature(function).parameters), arguments, name)

    def test_the_examples(self):
        p = read_pattern("a a/b\nb a\n")
        self.assertEqual(
            (transformed(p, 1), canonical(p)),
            ((("b", "a"), ("a", "a\\b")), (("a", "b"), ("a/b", "a"))),
        )
        self.assertEqual(
            (composed(1, 4), stabilizer((("a", "b"), ("b", "a"))), half_cells(p)),
            (7, [0, 2, 5, 7], [("a", 5), ("b", 3)]),
        )
        self.assertEqual(kind_of((("c", "c", "x"),)), (("a", "a", "b"),))

    def test_the_examples_of_the_readme(self):
        result = doctest.testfile(str(TOP / "README.md"), module_relative=False)
        self.assertGreater(result.attempted, 0)
        self.assertEqual(result.failed, 0)

    def test_arguments_somewhat_beyond_the_limits_raise_no_error(self):
        large = tuple(("a", "b/c", "d") * 4 for _ in range(12))
        for pattern in (large, (), ((),)):
            for function in (canonical, stabilizer, first_naming, kind_of, format_pattern, half_cells):
                function(pattern)
            self.assertEqual(symmetry_between(pattern, pattern), 0)
        self.assertEqual(transformed(transformed(large, 1), 3), large)
        for symmetry in (-1, 8, 9):
            transformed(large, symmetry)
            inverse(symmetry)
            composed(symmetry, 4)
            composed(4, symmetry)


class NothingOutsideTest(unittest.TestCase):
    def test_modules_import_only_from_the_package(self):
        for path in package_files():
            for node in ast.walk(ast.parse(path.read_text(encoding="utf-8"))):
                self.assertNotIsInstance(node, ast.Import, path.name)
                if isinstance(node, ast.ImportFrom):
                    self.assertEqual((node.level, node.module.split(".")[0]), (0, "sewnwhole"), path.name)

    def test_no_builtin_that_reaches_outside_is_named(self):
        barred = {"open", "input", "print", "exec", "eval", "compile", "__import__", "breakpoint", "globals", "vars"}
        for path in package_files():
            names = {node.id for node in ast.walk(ast.parse(path.read_text(encoding="utf-8")))
                     if isinstance(node, ast.Name)}
            self.assertEqual(names & barred, set(), path.name)

    def test_no_lists_or_dicts_are_kept_between_calls(self):
        for module in (sewnwhole.cells, sewnwhole.errors, sewnwhole.limits, *FUNCTIONS):
            for name, value in vars(module).items():
                if not name.startswith("__"):
                    self.assertNotIsInstance(value, (list, dict, set, bytearray), name)

    def test_calls_in_any_order_return_the_same(self):
        texts = ["a a/b\nb a\n", "z\n", "q\\c c\nc/q q\nx y\n"]
        patterns = [read_pattern(text) for text in texts]
        functions = [canonical, stabilizer, first_naming, kind_of, format_pattern, half_cells]
        once = [[function(pattern) for pattern in patterns] for function in functions]
        again = [[function(pattern) for pattern in patterns[::-1]] for function in functions[::-1]]
        self.assertEqual([row[::-1] for row in again[::-1]], once)
        self.assertEqual(patterns, [read_pattern(text) for text in texts])


class FormTest(unittest.TestCase):
    """The rules of form that can be counted."""

    def test_the_folder_contains_only_plain_files(self):
        for path in (TOP / "sewnwhole").iterdir():
            if path.name != "__pycache__":
                self.assertRegex(path.name, r"\A[a-z_]+\.py\Z")

    def test_characters_and_sizes(self):
        for path in package_files():
            text = path.read_text(encoding="utf-8")
            self.assertEqual([sign for sign in text if sign != "\n" and not " " <= sign <= "~"], [], path.name)
            lines = text.splitlines()
            self.assertLess(len(lines), 400, path.name)
            self.assertLessEqual(max([len(line) for line in lines]), 120, path.name)

    def test_functions_have_at_most_forty_lines(self):
        for path in package_files():
            for node in ast.walk(ast.parse(path.read_text(encoding="utf-8"))):
                if isinstance(node, ast.FunctionDef):
                    self.assertLessEqual(node.end_lineno - node.lineno + 1, 40, (path.name, node.name))


if __name__ == "__main__":
    unittest.main()
