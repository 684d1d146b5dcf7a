"""What the interface says of the whole program: names, arguments, and what it never does."""

import ast
import builtins
import contextlib
import inspect
import io
import os
import unittest

import fillring
from fillring import rings

FOLDER = os.path.dirname(fillring.__file__)
ARGUMENTS = {
    "cf_fill": ["a", "b"],
    "cf_other": ["a"],
    "cf_turn": ["a"],
    "cf_marks": ["a"],
    "cf_tests": ["a"],
    "cf_line": ["a"],
    "cf_good": ["n"],
}
OWN_NAMES_OF_PYTHON = (
    "len", "range", "enumerate", "zip", "min", "max", "sum", "abs", "sorted", "reversed",
    "int", "str", "bool", "list", "tuple", "dict", "any", "all", "divmod",
)
STATEMENTS = (
    ast.FunctionDef, ast.Assign, ast.AugAssign, ast.If, ast.While, ast.For,
    ast.Return, ast.Break, ast.Continue, ast.Expr,
)


def files():
    return sorted(name for name in os.listdir(FOLDER) if name != "__pycache__")


def text_of(name):
    with open(os.path.join(FOLDER, name), encoding="ascii") as file:
        return file.read()


def functions_of(name):
    return [node for node in ast.walk(ast.parse(text_of(name))) if isinstance(node, ast.FunctionDef)]


class Interface(unittest.TestCase):
    def test_names_and_arguments(self):
        for name, arguments in ARGUMENTS.items():
            asked = inspect.signature(getattr(rings, name))
            self.assertEqual(list(asked.parameters), arguments)
            for parameter in asked.parameters.values():
                self.assertIs(parameter.default, inspect.Parameter.empty)

    def test_arguments_by_name(self):
        self.assertEqual(rings.cf_fill(a=[1], b=[1]), [1])
        self.assertEqual(rings.cf_other(a=[1]), [1, 0])
        self.assertEqual(rings.cf_turn(a=[1]), [1])
        self.assertEqual(rings.cf_marks(a=[1]), [0])
        self.assertEqual(rings.cf_tests(a=[1]), [3])
        self.assertEqual(rings.cf_line(a=1), [1])
        self.assertEqual(rings.cf_good(n=2), [1])

    def test_nothing_is_printed(self):
        out = io.StringIO()
        with contextlib.redirect_stdout(out), contextlib.redirect_stderr(out):
            for a in ([], [2], [0, 0], [1, 0, 1, 0], [1, 1, 1, 0, 0, 0]):
                rings.cf_fill(a, a)
                for call in (rings.cf_other, rings.cf_turn, rings.cf_marks, rings.cf_tests):
                    call(a)
            for number in (-1, 1, 5, 11, 72):
                rings.cf_line(number)
                rings.cf_good(number)
        self.assertEqual(out.getvalue(), "")


class Files(unittest.TestCase):
    def test_which_there_are(self):
        self.assertEqual(files(), ["__init__.py", "rings.py"])

    def test_size(self):
        for name in files():
            lines = text_of(name).split("\n")
            self.assertLessEqual(len(lines), 400)
            for line in lines:
                self.assertLessEqual(len(line), 120)
                self.assertNotIn("\t", line)
            for function in functions_of(name):
                self.assertLessEqual(function.end_lineno - function.lineno + 1, 40, function.name)

    def test_statements_and_names(self):
        for name in files():
            for node in ast.walk(ast.parse(text_of(name))):
                if isinstance(node, ast.stmt):
                    self.assertIsInstance(node, STATEMENTS, ast.dump(node))
                if isinstance(node, ast.Name) and hasattr(builtins, node.id):
                    self.assertIn(node.id, OWN_NAMES_OF_PYTHON)

    def test_no_function_comes_to_be_called_within_itself(self):
        calls = {}
        for function in functions_of("rings.py"):
            named = [node.id for node in ast.walk(function) if isinstance(node, ast.Name)]
            calls[function.name] = set(named)
        settled = set()
        while len(settled) < len(calls):
            more = [name for name in calls if name not in settled and not (calls[name] & set(calls)) - settled]
            self.assertTrue(more, "these call one another: %s" % sorted(set(calls) - settled))
            settled.update(more)

    def test_what_stands_at_the_top_stays(self):
        kept = {name: value for name, value in vars(rings).items() if name.isupper()}
        for value in kept.values():
            self.assertIsInstance(value, (int, tuple))
        rings.cf_other([1, 0, 1, 0])
        rings.cf_tests([1, 0, 1, 0])
        rings.cf_line(5)
        rings.cf_good(72)
        self.assertEqual({name: value for name, value in vars(rings).items() if name.isupper()}, kept)


if __name__ == "__main__":
    unittest.main()
