"""What holds of every call: nothing kept, printed, read or imported, nothing nested, and the form of the files."""

import ast
import builtins
import contextlib
import inspect
import io
import pathlib
import re
import sys
import unittest
from random import Random

from peglines import ways
from tests.helping import Sealed, drawn_free_way, drawn_marks, drawn_same, flat

PACKAGE = pathlib.Path(ways.__file__).parent
ALLOWED_BUILTINS = (
    "len range enumerate zip min max sum abs sorted reversed int str bool list tuple dict set frozenset isinstance"
    " ord repr any all divmod"
).split()
ALLOWED_NODES = (
    "Module FunctionDef arguments arg Expr Assign AugAssign If For While Return Break Continue Pass Call keyword"
    " Attribute Subscript Slice Name Load Store Constant List Tuple Dict ListComp comprehension Lambda IfExp BoolOp And"
    " Or UnaryOp Not USub BinOp Add Sub Mult FloorDiv Mod Compare Eq NotEq Lt LtE Gt GtE In NotIn Is IsNot"
).split()
ALLOWED_METHODS = "append clear copy count extend get index insert items keys pop remove reverse values".split()
BARRED_WORDS = (
    "type typing typing_extensions enum Enum IntEnum StrEnum Flag IntFlag Generic Protocol ABC ABCMeta namedtuple"
    " NamedTuple TypedDict TYPE_CHECKING abstractmethod dataclass overload contextmanager register mro elements open"
    " input version_info with_traceback add_note"
).split()
PARAMETERS = {
    "touch": ["marks", "a"],
    "word": ["marks", "a"],
    "string": ["marks", "a"],
    "same": ["marks", "a", "b"],
    "differ": ["marks", "a", "b"],
    "left": ["marks", "a", "b"],
    "round_of": ["k", "marks", "a"],
    "slack": ["marks", "a"],
    "without": ["marks", "a"],
}
CALLS = [getattr(ways, name) for name in PARAMETERS]


def fitted(call, marks, a, b):
    """What is handed to the call, in its order."""
    handed_in = {"k": 0, "marks": marks, "a": a, "b": b}
    return [handed_in[name] for name in PARAMETERS[call.__name__]]


def package_files():
    return sorted(PACKAGE.glob("*.py"))


def parsed_nodes(path):
    return list(ast.walk(ast.parse(path.read_text(encoding="ascii"))))


def bound_names(path):
    names = []
    for node in parsed_nodes(path):
        if isinstance(node, ast.FunctionDef):
            names.append(node.name)
        elif isinstance(node, ast.arg):
            names.append(node.arg)
        elif isinstance(node, ast.Name) and isinstance(node.ctx, ast.Store):
            names.append(node.id)
    return names


class Calls(unittest.TestCase):
    def test_names_and_arguments(self):
        for call in CALLS:
            self.assertEqual(PARAMETERS[call.__name__], list(inspect.signature(call).parameters))
            given = fitted(call, [0, 0], [-5, -5, 5, -5], [-5, -5, 5, 5, 5, -5])
            self.assertEqual(call(*given), call(**dict(zip(PARAMETERS[call.__name__], given))))

    def test_nothing_is_kept_between_calls(self):
        inputs = [
            ([0, 0], [-5, -5, 5, -5], [-5, -5, -5, 5, 5, -5]),
            ([], [], []),
            ([0, 0, 0, 0], [1, 1], [1, 1]),
            ([0, 0], [0, 0], [0, 0]),
            ([3, 9], [0, 0, 9, 0], [0, 0, 9, 0]),
            ([3, 9], [0, 0, 9, 0], [9, 0, 0, 0]),
        ]
        alone = [[call(*fitted(call, *given)) for given in inputs] for call in CALLS]
        for call, answers in zip(CALLS, alone):
            for other in CALLS:
                for given in reversed(inputs):
                    other(*fitted(other, *given))
            self.assertEqual(answers, [call(*fitted(call, *given)) for given in inputs])

    def test_a_list_changed_by_its_owner_is_looked_at_anew(self):
        marks, a = [0, 0], [-5, -5, 5, -5]
        self.assertEqual([1, 1], ways.word(marks, a))
        self.assertEqual([-3], ways.touch(marks, a))
        marks[1] = -5
        self.assertEqual([-9], ways.word(marks, a))
        self.assertEqual([0, 0, 0], ways.touch(marks, a))

    def test_one_list_handed_in_as_all(self):
        for call in CALLS:
            places = Sealed([0, 0, 4, 4])
            expected = {"touch": [0, 0, 0], "slack": [-3]}.get(call.__name__, [-9])
            self.assertEqual(expected, call(*fitted(call, places, places, places)))
            self.assertEqual([0, 0, 4, 4], places)

    def test_every_call_leaves_what_is_handed_in_and_answers_again(self):
        source = Random(91)
        for case_number in range(100):
            marks = drawn_marks(source, 20, 6)
            a = drawn_free_way(source, marks, 20, 8)
            ways_for_b = [drawn_free_way(source, marks, 20, 4, begin=a[0], end=a[-1]), drawn_same(source, marks, a), a]
            for b in ways_for_b + [drawn_free_way(source, marks, 20, 4), [], marks]:
                for call in CALLS:
                    given = fitted(call, flat(marks), flat(a), flat(b))
                    answered = call(*given)
                    self.assertEqual(fitted(call, flat(marks), flat(a), flat(b)), given)
                    self.assertEqual(answered, call(*given))
                    sealed = fitted(call, Sealed(flat(marks)), Sealed(flat(a)), Sealed(flat(b)))
                    self.assertEqual(answered, call(*sealed))

    def test_nothing_is_printed(self):
        said = io.StringIO()
        with contextlib.redirect_stdout(said), contextlib.redirect_stderr(said):
            for call in CALLS:
                call(*fitted(call, [0, 0], [-5, -5, 5, -5], [-5, -5, 5, -5]))
                call(*fitted(call, [], [], []))
        self.assertEqual("", said.getvalue())

    def test_long_ways_are_gone_through_by_loops(self):
        marks = [number for k in range(32) for number in (10 * k, 0)]
        a = [-5, -5, 315, -5, 155, 400] * 341 + [-5, -5]
        b = [-5, -5, 315, -5, 155, 401] * 341 + [-5, -5]
        usual = sys.getrecursionlimit()
        sys.setrecursionlimit(len(inspect.stack(0)) + 40)
        try:
            lengths = {call.__name__: len(call(*fitted(call, marks, a, b))) for call in CALLS}
        finally:
            sys.setrecursionlimit(usual)
        expected = {"touch": 1, "word": 10913, "string": 10913, "same": 1, "differ": 1, "left": 1}
        expected.update({"round_of": 2, "slack": 1, "without": 2049})
        self.assertEqual(expected, lengths)


class Files(unittest.TestCase):
    def test_files_of_the_package(self):
        found = [path.name for path in PACKAGE.iterdir() if path.name != "__pycache__"]
        self.assertEqual(["__init__.py", "ways.py"], sorted(found))

    def test_nothing_is_imported(self):
        for path in package_files():
            for node in parsed_nodes(path):
                self.assertNotIsInstance(node, (ast.Import, ast.ImportFrom))

    def test_names_of_python_that_are_used(self):
        for path in package_files():
            for node in parsed_nodes(path):
                if isinstance(node, ast.Name) and hasattr(builtins, node.id):
                    self.assertIn(node.id, ALLOWED_BUILTINS)
                    self.assertIsInstance(node.ctx, ast.Load)

    def test_sizes(self):
        for path in package_files():
            rows = path.read_text(encoding="ascii").split("\n")
            self.assertLessEqual(len(rows), 400)
            self.assertLessEqual(max(len(row) for row in rows), 120)
            self.assertFalse(any("\t" in row or "\r" in row for row in rows))
            for node in parsed_nodes(path):
                if isinstance(node, ast.FunctionDef):
                    self.assertLessEqual(node.end_lineno - node.lineno + 1, 40, node.name)

    def test_statements_and_values(self):
        for path in package_files():
            for node in parsed_nodes(path):
                self.assertIn(node.__class__.__name__, ALLOWED_NODES)
                if isinstance(node, ast.Constant):
                    self.assertIn(node.value.__class__, (int, str, bool, None.__class__))
                if isinstance(node, (ast.For, ast.While)):
                    self.assertEqual([], node.orelse)
                if isinstance(node, ast.Assign):
                    self.assertEqual(1, len(node.targets))
                if isinstance(node, ast.ListComp):
                    self.assertEqual(1, len(node.generators))
                    self.assertLessEqual(len(node.generators[0].ifs), 1)

    def test_is_stands_beside_plain_values_alone(self):
        for path in package_files():
            for node in parsed_nodes(path):
                if isinstance(node, ast.Compare) and isinstance(node.ops[0], (ast.Is, ast.IsNot)):
                    self.assertIn(ast.unparse(node.comparators[0]), ("None", "True", "False"))

    def test_names(self):
        for path in package_files():
            for name in bound_names(path):
                self.assertRegex(name, "^[A-Za-z][A-Za-z0-9_]*$")
                self.assertFalse(hasattr(builtins, name), name)

    def test_each_name_at_the_top_is_bound_once(self):
        for path in package_files():
            tree = ast.parse(path.read_text(encoding="ascii"))
            names = [node.name for node in tree.body if isinstance(node, ast.FunctionDef)]
            names += [node.targets[0].id for node in tree.body if isinstance(node, ast.Assign)]
            self.assertEqual(len(names), len(set(names)))

    def test_methods_and_keywords(self):
        for path in package_files():
            for node in parsed_nodes(path):
                if isinstance(node, ast.Attribute):
                    self.assertIn(node.attr, ALLOWED_METHODS)
                if isinstance(node, ast.Call):
                    self.assertLessEqual({keyword.arg for keyword in node.keywords}, {"key"})

    def test_words_that_stand_nowhere(self):
        for path in package_files():
            words = set(re.findall(r"\w+", path.read_text(encoding="ascii")))
            self.assertEqual(set(), words & set(BARRED_WORDS))


if __name__ == "__main__":
    unittest.main()
