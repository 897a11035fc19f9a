"""The names and arguments of the interface, and that the program draws on nothing outside it (point 1)."""

import ast
import inspect
import pathlib
import unittest

import mastline
from mastline import errors, laying, walking

FOLDER = pathlib.Path(mastline.__file__).parent


class Interface(unittest.TestCase):
    def test_arguments(self):
        told = {
            laying.in_turn: ["cables"],
            laying.laid: ["count", "cables"],
            laying.total: ["count", "cables"],
            walking.unrolled: ["count", "cables"],
            walking.way: ["count", "cables", "one", "other"],
            walking.detours: ["count", "cables"],
        }
        for function, names in told.items():
            self.assertEqual(list(inspect.signature(function).parameters), names, function)

    def test_by_name(self):
        cables = [(0, 1, 2)]
        self.assertEqual(laying.in_turn(cables=cables), [0])
        self.assertEqual(laying.laid(count=2, cables=cables), [0])
        self.assertEqual(laying.total(count=2, cables=cables), 2)
        self.assertEqual(len(walking.unrolled(count=2, cables=cables)), 2)
        self.assertEqual(walking.way(count=2, cables=cables, one=0, other=1), [0])
        self.assertEqual(walking.detours(count=2, cables=cables), [])

    def test_errors(self):
        self.assertEqual(errors.MastError.__bases__, (ValueError,))
        self.assertEqual(errors.NoMast.__bases__, (errors.MastError,))


class NothingFromOutside(unittest.TestCase):
    def test_only_its_own_files_are_drawn_from(self):
        for path in sorted(FOLDER.glob("*.py")):
            for node in ast.walk(ast.parse(path.read_text(encoding="utf-8"))):
                self.assertNotIsInstance(node, ast.Import, path)
                if isinstance(node, ast.ImportFrom):
                    self.assertTrue(node.module.startswith("mastline."), path)

    def test_no_file_is_read_and_nothing_is_printed(self):
        for path in sorted(FOLDER.glob("*.py")):
            for node in ast.walk(ast.parse(path.read_text(encoding="utf-8"))):
                if isinstance(node, ast.Name):
                    self.assertNotIn(node.id, ("open", "input", "print", "eval", "exec", "__import__"), path)

    def test_the_same_answer_each_time(self):
        cables = [(0, 1, 1), (1, 2, 1), (2, 0, 1), (3, 4, 0), (4, 3, 0)]
        for function in (laying.laid, laying.total, walking.unrolled, walking.detours):
            self.assertEqual(function(6, cables), function(6, list(cables)))


if __name__ == "__main__":
    unittest.main()
