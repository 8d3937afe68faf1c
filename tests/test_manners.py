"""What holds of every call: nothing kept, printed, read or imported, nothing nested, and the form of the files."""

import ast
import builtins
import contextlib
import inspect
import io
import pathlib
import sys
import unittest

from peglines import ways

PACKAGE = pathlib.Path(ways.__file__).parent
ALLOWED_BUILTINS = (
    "len range enumerate zip min max sum abs sorted reversed int str bool list tuple dict set frozenset isinstance"
    " ord repr any all divmod"
).split()
CALLS = [ways.touch, ways.word]


def package_files():
    return sorted(PACKAGE.glob("*.py"))


def parsed_nodes(path):
    return list(ast.walk(ast.parse(path.read_text(encoding="ascii"))))


class Calls(unittest.TestCase):
    def test_names_and_arguments(self):
        for call in CALLS:
            self.assertEqual(["marks", "a"], list(inspect.signature(call).parameters))
            self.assertEqual(call(marks=[0, 0], a=[0, 0]), call([0, 0], [0, 0]))

    def test_nothing_is_kept_between_calls(self):
        given = [([0, 0], [-5, -5, 5, -5]), ([], []), ([0, 0, 0, 0], [1, 1]), ([0, 0], [0, 0]), ([3, 9], [0, 0, 9, 0])]
        for call in CALLS:
            alone = [call(list(marks), list(a)) for marks, a in given]
            for other in CALLS:
                for marks, a in reversed(given):
                    other(marks, a)
            self.assertEqual(alone, [call(marks, a) for marks, a in given])

    def test_a_list_changed_by_its_owner_is_looked_at_anew(self):
        marks, a = [0, 0], [-5, -5, 5, -5]
        self.assertEqual([1, 1], ways.word(marks, a))
        self.assertEqual([-3], ways.touch(marks, a))
        marks[1] = -5
        self.assertEqual([-9], ways.word(marks, a))
        self.assertEqual([0, 0, 0], ways.touch(marks, a))

    def test_one_list_handed_in_twice(self):
        places = [0, 0, 4, 4]
        self.assertEqual([0, 0, 0], ways.touch(places, places))
        self.assertEqual([-9], ways.word(places, places))
        self.assertEqual([0, 0, 4, 4], places)

    def test_nothing_is_printed(self):
        said = io.StringIO()
        with contextlib.redirect_stdout(said), contextlib.redirect_stderr(said):
            for call in CALLS:
                call([0, 0], [-5, -5, 5, -5])
                call([], [])
        self.assertEqual("", said.getvalue())

    def test_long_ways_are_gone_through_by_loops(self):
        marks = [number for k in range(32) for number in (10 * k, 0)]
        a = [-5, -5, 315, -5] * 512
        usual = sys.getrecursionlimit()
        sys.setrecursionlimit(len(inspect.stack(0)) + 40)
        try:
            lengths = [len(call(marks, a)) for call in CALLS]
        finally:
            sys.setrecursionlimit(usual)
        self.assertEqual([1, 1 + 1023 * 32], lengths)


class Files(unittest.TestCase):
    def test_files_of_the_package(self):
        found = [path.name for path in PACKAGE.iterdir() if path.name != "__pycache__"]
        self.assertEqual(["__init__.py", "ways.py"], sorted(found))

    def test_nothing_is_imported(self):
        for path in package_files():
            for node in parsed_nodes(path):
                self.assertNotIsInstance(node, (ast.Import, ast.ImportFrom))

    def test_names_of_python_that_are_used(self):
        for path in package_files():
            for node in parsed_nodes(path):
                if isinstance(node, ast.Name) and hasattr(builtins, node.id):
                    self.assertIn(node.id, ALLOWED_BUILTINS)
                    self.assertIsInstance(node.ctx, ast.Load)

    def test_sizes(self):
        for path in package_files():
            rows = path.read_text(encoding="ascii").split("\n")
            self.assertLessEqual(len(rows), 400)
            self.assertLessEqual(max(len(row) for row in rows), 120)
            self.assertFalse(any("\t" in row or "\r" in row for row in rows))
            for node in parsed_nodes(path):
                if isinstance(node, ast.FunctionDef):
                    self.assertLessEqual(node.end_lineno - node.lineno + 1, 40, node.name)

    def test_statements_and_values(self):
        outside = (
            ast.With, ast.Match, ast.Delete, ast.Global, ast.Nonlocal, ast.Assert, ast.Yield, ast.YieldFrom,
            ast.AsyncFunctionDef, ast.Await, ast.SetComp, ast.DictComp, ast.GeneratorExp, ast.NamedExpr,
            ast.Starred, ast.Div,
        )
        for path in package_files():
            for node in parsed_nodes(path):
                self.assertNotIsInstance(node, outside)
                if isinstance(node, ast.Constant):
                    self.assertNotIsInstance(node.value, (float, complex, bytes))


if __name__ == "__main__":
    unittest.main()
